import PyProof.Rows.All
import Wide.All
import OpenK.AllK
import Wide.FinOn
import HandS.Text
import PyProof.Rows.IntBool
import PyProof.CallStr
import HandS.TupMul
import HandS.IsInst
import HandS.Gcd
import HandS.Struct
import HandS.Wide
import HandS.TryOnly
import HandS.More
import HandS.Zip
import HandS.Style
import HandS.TupLe
import HandS.ForMost
import HandS.ForExc
import HandS.TryMany
import KE.SortData
import KE.DataMinMax
import HandS.Lambda
import KE.KDictKeyed
import HandS.TupAny
import KE.DataEq
import KE.DataCmp
import PyProof.FitsInt
import HandS.DictComp
import KE.KDictList
import HandS.Conv
import HandS.Set
import HandS.TupLen
import HandS.TupSets
import KE.KDictPairs
import HandS.Defaults
import PyProof.StrOps
import PyProof.StrLawsIn
import HandS.ExcInit
import HandS.WordsExc
import KE.KExcInit
import HandS.ExcField
import HandS.EndTab
import HandS.HeadHook4
import KE.KNestM
import KE.GoesEnum
import KE.GoesMore
import HandS.BoundDict
import PyProof.DictMoreH
import KE.KTryMore
import KE.KExcIs
import KE.KIsAll
import KE.DataFind
import KE.DatumIndex
import HandS.Rev
import Open.Row
import KE.KIntText
import PyProof.Rows.ReprOcc
import PySem.Challenge.RW_strangerbench_k41_rests_and_shaken_told
set_option Elab.async false
set_option linter.all false
set_option maxRecDepth 100000
set_option maxHeartbeats 4000000
namespace Eg
open PySem L2 PySem.W PySem.SeqAt PySem.Spec PyProof.Rows
mutual
def nk : PyData → NestedKey
  | .none => .none
  | .bool b => .num (if b = true then 1 else 0)
  | .int i => .num i
  | .str x => .text x
  | .tuple ds => .tup (nks ds)
  | .list _ => .none
  | .dict _ => .none
def nks : List PyData → List NestedKey
  | [] => []
  | d :: ds => nk d :: nks ds
end
mutual
def keyB : PyData → Bool
  | .none => true
  | .int _ => true
  | .str _ => true
  | .tuple ds => keyBs ds
  | .bool _ => false
  | .list _ => false
  | .dict _ => false
def keyBs : List PyData → Bool
  | [] => true
  | d :: ds => keyB d && keyBs ds
end
mutual
theorem nk_inj : ∀ d e : PyData, keyB d = true → keyB e = true → nk d = nk e → d = e
  | .none, e, _, he, h => by cases e <;> simp [nk, keyB] at he h ⊢
  | .int i, e, _, he, h => by cases e <;> simp [nk, keyB] at he h ⊢; exact h
  | .str x, e, _, he, h => by cases e <;> simp [nk, keyB] at he h ⊢; exact h
  | .tuple ds, e, hd, he, h => by
    cases e <;> simp [nk, keyB] at hd he h ⊢
    exact nks_inj ds _ hd he h
  | .bool b, _, hd, _, _ => by simp [keyB] at hd
  | .list ds, _, hd, _, _ => by simp [keyB] at hd
  | .dict ds, _, hd, _, _ => by simp [keyB] at hd
theorem nks_inj : ∀ ds es : List PyData, keyBs ds = true → keyBs es = true → nks ds = nks es → ds = es
  | [], es, _, _, h => by cases es <;> simp [nks] at h ⊢
  | d :: ds, es, hd, he, h => by
    cases es with
    | nil => simp [nks] at h
    | cons e es =>
      rw [keyBs, Bool.and_eq_true] at hd he
      rw [nks, nks] at h
      injection h with h1 h2
      rw [nk_inj d e hd.1 he.1 h1, nks_inj ds es hd.2 he.2 h2]
end
mutual
theorem nk_depth : ∀ d : PyData, keyB d = true → (nk d).depth ≤ d.depth
  | .none, _ => by rw [nk, NestedKey.depth]; exact Nat.zero_le _
  | .int i, _ => by rw [nk, NestedKey.depth]; exact Nat.zero_le _
  | .str x, _ => by rw [nk, NestedKey.depth]; exact Nat.zero_le _
  | .tuple ds, h => by
    rw [keyB] at h
    rw [nk, NestedKey.depth, PyData.depth]
    have := nks_depth ds h
    omega
  | .bool b, hd => by simp [keyB] at hd
  | .list ds, hd => by simp [keyB] at hd
  | .dict ds, hd => by simp [keyB] at hd
theorem nks_depth : ∀ ds : List PyData, keyBs ds = true → NestedKey.depthAll (nks ds) ≤ PyData.depthAll ds
  | [], _ => by rw [nks, NestedKey.depthAll]; exact Nat.zero_le _
  | d :: ds, h => by
    rw [keyBs, Bool.and_eq_true] at h
    rw [nks, NestedKey.depthAll, PyData.depthAll]
    have h1 := nk_depth d h.1
    have h2 := nks_depth ds h.2
    omega
end
mutual
theorem nk_reads {h : Heap} : ∀ (d : PyData) (v : Value) (as : List Addr), Reads h v d as → keyB d = true → NestedIs h (nk d) v
  | .none, v, as, r, _ => by cases r; rw [nk]; exact .none
  | .int i, v, as, r, _ => by cases r; rw [nk]; exact .int _ _
  | .str x, v, as, r, _ => by cases r; rw [nk]; exact .text _ _
  | .tuple ds, v, as, r, k => by
    rw [keyB] at k
    cases r with
    | tuple h1 h2 h3 h4 => rw [nk]; exact .tup h1 h2 h3 (nks_reads ds _ _ h4 k)
  | .bool b, _, _, _, hd => by simp [keyB] at hd
  | .list ds, _, _, _, hd => by simp [keyB] at hd
  | .dict ds, _, _, _, hd => by simp [keyB] at hd
theorem nks_reads {h : Heap} : ∀ (ds : List PyData) (vs : List Value) (as : List Addr), ReadsAll h vs ds as → keyBs ds = true → NestedAll h (nks ds) vs
  | [], vs, as, r, _ => by cases r; rw [nks]; exact .nil
  | d :: ds, vs, as, r, k => by
    rw [keyBs, Bool.and_eq_true] at k
    cases r with
    | cons h1 h2 => rw [nks]; exact .cons (nk_reads d _ _ h1 k.1) (nks_reads ds _ _ h2 k.2)
end
theorem nk_is {P : Program} {w : World} {h : Heap} {d : PyData} {a : Addr} {as : List Addr} (r : Reads h (.ref a) d as) (k : keyB d = true) (n : d.depth ≤ 8) : (nestedKind P w).is h (nk d) a :=
  ⟨nk_reads d _ as r k, Nat.le_trans (nk_depth d k) n⟩
end Eg
namespace Eg
open PySem L2
structure LamI where
  f : Addr
  c : Addr
  q : Str
  σ : L2.St
structure Kw where
  fr : PySem.W.Frag
  w : World
  mg : Str → Option Value
  exn : Option (Addr × Obj)
  lam : Option LamI
instance : Coe Kw PySem.W.Frag := ⟨Kw.fr⟩
abbrev _root_.L2.Cx.KW (X : Cx) : Kw := ⟨X.K, X.w, X.mg, bif X.calm then none else X.pn.head?, none⟩
class Tbs where
  T : List (Addr × Str)
def noT (o : HO) : Prop := ∀ ps, o ≠ .tbl ps
structure TB [Tbs] (F H : Hp) : Prop where
  tab : ∀ p ∈ Tbs.T, F p.1 = none ∧ ∃ ps : Array Value, H p.1 = some (.tbl ps) ∧ TriplesOk ps.toList ∧ ∀ (pos : Pos) (cv : Value), codeAmong pos ps.toList = some cv → ∃ c, cv = .ref c ∧ F c = some (LamX.CodeO c p.2)
  nt : ∀ b u, F b = some u → noT u
theorem TB.on [Tbs] {F H F' H' : Hp} (t : TB F H) (e : ∀ b u, F b = some u → F' b = some u) (n : ∀ b u, F' b = some u → noT u) (h : ∀ P ps, F P = none → H P = some (.tbl ps) → F' P = none ∧ H' P = some (.tbl ps)) : TB F' H' := ⟨fun p hp => by
  obtain ⟨h1, ps, h2, h3, h4⟩ := t.tab p hp
  obtain ⟨k1, k2⟩ := h p.1 ps h1 h2
  refine ⟨k1, ps, k2, h3, fun pos cv hc => ?_⟩
  obtain ⟨c, e1, e2⟩ := h4 pos cv hc
  exact ⟨c, e1, e _ _ e2⟩, n⟩
theorem TB.wr [Tbs] {F H : Hp} {a : Addr} {u v : HO} (t : TB F H) (h : H a = some v) (n : noT v) : TB F (upd H a u) :=
  t.on (fun _ _ h => h) t.nt fun P ps h1 h2 => ⟨h1, by rw [upd_ne (fun z => n ps (by rw [z, h] at h2; exact Option.some.inj h2))]; exact h2⟩
theorem TB.new [Tbs] {F H : Hp} {a : Addr} {u : HO} (t : TB F H) (h : H a = none) : TB F (upd H a u) :=
  t.on (fun _ _ h => h) t.nt fun P ps h1 h2 => ⟨h1, by rw [upd_ne (ne_of_none h2 h)]; exact h2⟩
theorem nt_upd {F : Hp} {p : Addr} {o : HO} (h : ∀ b u, F b = some u → noT u) (n : noT o) : ∀ b u, upd F p o b = some u → noT u := fun b u e => by
  by_cases q : b = p
  · subst q; rw [upd_same] at e; cases e; exact n
  · rw [upd_ne q] at e; exact h b u e
inductive SD where
  | d (d : PyData)
  | t (kvs : List (Key × PyData))
inductive OD where
  | sh (d : PyData)
  | ol (xs : List PyData)
  | od (kvs : List (Key × PyData))
  | kd (kvs : List (PyData × PyData))
  | sd (kvs : List (Key × PyData))
  | sn (kvs : List (PyData × PyData))
  | en (nm : Str) (flds : List (Str × PyData))
  | sc (ns : List Int)
  | ts (os : List SD)
  | lam (caps : List (Nat × PyData))
  | fn (nm : Str)
def OD.isO : OD → Bool
  | .sh _ => false
  | .sc _ => false
  | .sd _ => false
  | .sn _ => false
  | .en _ _ => false
  | .lam _ => false
  | .fn _ => false
  | .ts _ => false
  | .ol _ => true
  | .od _ => true
  | .kd _ => true
abbrev Rho := List (Option OD)
structure Xc where
  cls : Str
  flds : List (Str × PyData)
inductive Res (α : Type) where
  | ok (a : α) (r : Rho)
  | ex (x : Xc) (r : Rho)
  | bad
abbrev M (α : Type) := Rho → Res α
def M.bind {α β : Type} (m : M α) (f : α → M β) : M β := fun ρ => match m ρ with
  | .ok a ρ' => f a ρ'
  | .ex x ρ' => .ex x ρ'
  | .bad => .bad
def M.ret {α : Type} (a : α) : M α := fun ρ => .ok a ρ
def M.bad {α : Type} : M α := fun _ => .bad
def M.lift {α : Type} : Option α → M α
  | some a => M.ret a
  | none => M.bad
mutual
inductive DV (K : Kw) (H : Hp) : V → PyData → Prop
  | non : DV K H .non .none
  | bl (b : Bool) : DV K H (.bl b) (.bool b)
  | int (i : Int) : DV K H (.int i) (.int i)
  | str (x : Str) : DV K H (.str x) (.str x)
  | lst {a : Addr} {xs : List V} {ds : List PyData} : H a = some (.lst xs) → DVs K H xs ds → DV K H (.ref a) (.list ds)
  | tup {a : Addr} {xs : List V} {ds : List PyData} : SqT K H a xs → DVs K H xs ds → DV K H (.ref a) (.tuple ds)
inductive DVs (K : Kw) (H : Hp) : List V → List PyData → Prop
  | nil : DVs K H [] []
  | cons {v : V} {vs : List V} {d : PyData} {ds : List PyData} : DV K H v d → DVs K H vs ds → DVs K H (v :: vs) (d :: ds)
end
section
variable {K : Kw}
theorem _root_.L2.Same.sqT {K : PySem.W.Frag} {H H' : Hp} {a : Addr} {xs : List V} (e : Same H H') (h : SqT K H a xs) : SqT K H' a xs := by
  rcases h with (h | ⟨o, h⟩) | h
  · exact .inl (.inl (e _ _ h))
  · exact .inl (.inr ⟨o, e _ _ h⟩)
  · exact .inr h
mutual
theorem DV.mono {H H' : Hp} (e : Same H H') : ∀ {v : V} {d : PyData}, DV K H v d → DV K H' v d
  | _, _, .non => .non
  | _, _, .bl b => .bl b
  | _, _, .int i => .int i
  | _, _, .str x => .str x
  | _, _, .lst h1 h2 => .lst (e _ _ h1) (DVs.mono e h2)
  | _, _, .tup h1 h2 => .tup (e.sqT h1) (DVs.mono e h2)
theorem DVs.mono {H H' : Hp} (e : Same H H') : ∀ {vs : List V} {ds : List PyData}, DVs K H vs ds → DVs K H' vs ds
  | _, _, .nil => .nil
  | _, _, .cons h1 h2 => .cons (DV.mono e h1) (DVs.mono e h2)
end
mutual
theorem DV.dp {H : Hp} : ∀ {v : V} {d : PyData}, DV K H v d → L2.Dp K H v d
  | _, _, .non => .non
  | _, _, .bl b => .bl b
  | _, _, .int i => .int i
  | _, _, .str x => .str x
  | _, _, .lst h1 h2 => .lst (SqL.of h1) (DVs.dp h2)
  | _, _, .tup h1 h2 => .tup h1 (DVs.dp h2)
theorem DVs.dp {H : Hp} : ∀ {vs : List V} {ds : List PyData}, DVs K H vs ds → L2.DpAll K H vs ds
  | _, _, .nil => .nil
  | _, _, .cons h1 h2 => .cons (DV.dp h1) (DVs.dp h2)
end
theorem DVs.len {H : Hp} : ∀ {vs : List V} {ds : List PyData}, DVs K H vs ds → vs.length = ds.length
  | _, _, .nil => rfl
  | _, _, .cons _ h => by rw [List.length_cons, List.length_cons, DVs.len h]
theorem DVs.append {H : Hp} : ∀ {vs ws : List V} {ds es : List PyData}, DVs K H vs ds → DVs K H ws es → DVs K H (vs ++ ws) (ds ++ es)
  | _, _, _, _, .nil, h => h
  | _, _, _, _, .cons h1 h2, h => .cons h1 (DVs.append h2 h)
theorem DVs.get {H : Hp} : ∀ {vs : List V} {ds : List PyData} {i : Nat} {d : PyData}, DVs K H vs ds → ds[i]? = some d → ∃ v, vs[i]? = some v ∧ DV K H v d
  | _, _, _, _, .nil, e => by simp at e
  | _, _, 0, _, .cons h _, e => by simp at e; subst e; exact ⟨_, rfl, h⟩
  | _, _, i + 1, d, .cons _ h, e => by
    obtain ⟨v, h1, h2⟩ := DVs.get (i := i) (d := d) h (by simpa using e)
    exact ⟨v, by simpa using h1, h2⟩
theorem DVs.take {H : Hp} : ∀ {vs : List V} {ds : List PyData} (n : Nat), DVs K H vs ds → DVs K H (vs.take n) (ds.take n)
  | _, _, 0, _ => .nil
  | _, _, _ + 1, .nil => .nil
  | _, _, n + 1, .cons h1 h2 => .cons h1 (DVs.take n h2)
theorem DVs.drop {H : Hp} : ∀ {vs : List V} {ds : List PyData} (n : Nat), DVs K H vs ds → DVs K H (vs.drop n) (ds.drop n)
  | _, _, 0, h => h
  | _, _, _ + 1, .nil => .nil
  | _, _, n + 1, .cons h1 h2 => DVs.drop n h2
theorem DVs.set {H : Hp} {v : V} {d : PyData} (h : DV K H v d) : ∀ {vs : List V} {ds : List PyData} (i : Nat), DVs K H vs ds → DVs K H (vs.set i v) (ds.set i d)
  | _, _, _, .nil => .nil
  | _, _, 0, .cons _ h2 => .cons h h2
  | _, _, i + 1, .cons h1 h2 => .cons h1 (DVs.set h i h2)
theorem DVs.erase {H : Hp} : ∀ {vs : List V} {ds : List PyData} (i : Nat), DVs K H vs ds → DVs K H (vs.eraseIdx i) (ds.eraseIdx i)
  | _, _, _, .nil => .nil
  | _, _, 0, .cons _ h2 => h2
  | _, _, i + 1, .cons h1 h2 => .cons h1 (DVs.erase i h2)
inductive KD (K : Kw) (H : Hp) : List (Key × V) → List (Key × PyData) → Prop
  | nil : KD K H [] []
  | cons {k : Key} {v : V} {d : PyData} {es : List (Key × V)} {kvs : List (Key × PyData)} : DV K H v d → KD K H es kvs → KD K H ((k, v) :: es) ((k, d) :: kvs)
theorem KD.mono {H H' : Hp} (e : Same H H') : ∀ {es : List (Key × V)} {kvs : List (Key × PyData)}, KD K H es kvs → KD K H' es kvs
  | _, _, .nil => .nil
  | _, _, .cons h1 h2 => .cons (DV.mono e h1) (KD.mono e h2)
abbrev KRow := NestedKey × Addr × V
structure KObj (w : World) (a : Addr) (L : List KRow) (h : Heap) : Prop where
  far : (a == sysModules) = false
  size : L.length ≤ sizeLine
  ob : ∃ xs : List (NestedKey × Addr × Value), Paired (fun (p : KRow) (q : NestedKey × Addr × Value) => p.1 = q.1 ∧ p.2.1 = q.2.1 ∧ RelV p.2.2 q.2.2) L xs ∧ (xs.map (·.1)).Nodup ∧
    ∃ o es ep, h.get? a = some o ∧ o.ExactDict ∧ o.data = .dict es ep ∧ es.toList = xs.map fun x => (⟨x.1.hash w, .ref x.2.1, x.2.2⟩ : DictEntry)
def KO (w : World) (a : Addr) (L : List KRow) : HO := .ext (KObj w a L)
inductive KN (K : Kw) (H : Hp) : List KRow → List (PyData × PyData) → Prop
  | nil : KN K H [] []
  | cons {k d : PyData} {b : Addr} {v : V} {L : List KRow} {kvs : List (PyData × PyData)} : keyB k = true → k.depth ≤ 8 → DV K H (.ref b) k → DV K H v d → KN K H L kvs → KN K H ((nk k, b, v) :: L) ((k, d) :: kvs)
theorem KN.mono {H H' : Hp} (e : Same H H') : ∀ {L : List KRow} {kvs : List (PyData × PyData)}, KN K H L kvs → KN K H' L kvs
  | _, _, .nil => .nil
  | _, _, .cons h0 h1 h2 h3 h4 => .cons h0 h1 (DV.mono e h2) (DV.mono e h3) (KN.mono e h4)
def FrzD (F : Hp) (a : Addr) (es : List (Key × V)) : Prop := ∃ o, F a = some (.frz o (.dK es))
theorem FrzD.mono {F F' : Hp} {a : Addr} {es : List (Key × V)} (e : Same F F') : FrzD F a es → FrzD F' a es
  | ⟨o, h⟩ => ⟨o, e _ _ h⟩
def FrzN (F : Hp) (w : World) (a : Addr) (L : List KRow) : Prop := ∃ o, F a = some (.frz o (KO w a L))
theorem FrzN.mono {F F' : Hp} {w : World} {a : Addr} {L : List KRow} (e : Same F F') : FrzN F w a L → FrzN F' w a L
  | ⟨o, h⟩ => ⟨o, e _ _ h⟩
inductive SDs (K : Kw) (F : Hp) : List V → List SD → Prop
  | nil : SDs K F [] []
  | d {v : V} {x : PyData} {vs : List V} {os : List SD} : DV K F v x → SDs K F vs os → SDs K F (v :: vs) (.d x :: os)
  | t {a : Addr} {es : List (Key × V)} {kvs : List (Key × PyData)} {vs : List V} {os : List SD} : FrzD F a es → KD K F es kvs → SDs K F vs os → SDs K F (.ref a :: vs) (.t kvs :: os)
theorem SDs.mono {F F' : Hp} (e : Same F F') : ∀ {vs : List V} {os : List SD}, SDs K F vs os → SDs K F' vs os
  | _, _, .nil => .nil
  | _, _, .d h r => .d (DV.mono e h) (SDs.mono e r)
  | _, _, .t h1 h2 r => .t (h1.mono e) (KD.mono e h2) (SDs.mono e r)
theorem SDs.len {F : Hp} : ∀ {vs : List V} {os : List SD}, SDs K F vs os → vs.length = os.length
  | _, _, .nil => rfl
  | _, _, .d _ r => by rw [List.length_cons, List.length_cons, SDs.len r]
  | _, _, .t _ _ r => by rw [List.length_cons, List.length_cons, SDs.len r]
def OR (K : Kw) (F H : Hp) (v : V) : OD → Prop
  | .sh d => DV K F v d
  | .ol xs => ∃ a vs, v = .ref a ∧ F a = none ∧ H a = some (.lst vs) ∧ DVs K F vs xs
  | .od kvs => ∃ a es, v = .ref a ∧ F a = none ∧ H a = some (.dK es) ∧ KD K F es kvs
  | .kd kvs => ∃ a L, v = .ref a ∧ F a = none ∧ H a = some (KO K.w a L) ∧ KN K F L kvs
  | .sd kvs => ∃ a es, v = .ref a ∧ FrzD F a es ∧ KD K F es kvs
  | .sn kvs => ∃ a L, v = .ref a ∧ FrzN F K.w a L ∧ KN K F L kvs
  | .en nm flds => ∃ (a Cl dd : Addr) (oe : Obj) (vs : List V), v = .ref a ∧ K.exn = some (a, oe) ∧ K.mg nm = some (.ref Cl) ∧ Zc (.ref Cl) (some dd) oe ∧ F dd = some (.xd ((flds.map (·.1)).zip vs).reverse) ∧ DVs K F vs (flds.map (·.2))
  | .sc ns => ∃ a, v = .ref a ∧ SqL K F a (ns.map V.int)
  | .lam caps => ∃ li, K.lam = some li ∧ v = .ref li.f ∧ F li.c = some (LamX.CodeO li.c li.q) ∧ ∀ x ∈ caps, ∃ u, li.σ[x.1]? = some (some u) ∧ DV K F u x.2
  | .ts os => ∃ a vs, v = .ref a ∧ SqT K F a vs ∧ SDs K F vs os
  | .fn nm => ∃ f, v = .ref f ∧ K.mg nm = some (.ref f)
def own (σ : St) (ρ : Rho) (b : Addr) : Prop := ∃ (i : Nat) (o : OD), ρ[i]? = some (some o) ∧ o.isO = true ∧ σ[i]? = some (some (V.ref b))
variable [Tbs]
structure SR (K : Kw) (F H : Hp) (σ : St) (ρ : Rho) : Prop where
  sub : Same F H
  len : ρ.length = σ.length
  sl : ∀ (i : Nat) (o : OD), ρ[i]? = some (some o) → ∃ v, σ[i]? = some (some v) ∧ OR K F H v o
  sep : ∀ (i j : Nat) (o o' : OD) (a : Addr), i ≠ j → ρ[i]? = some (some o) → o.isO = true → ρ[j]? = some (some o') → o'.isO = true → σ[i]? = some (some (V.ref a)) → σ[j]? ≠ some (some (V.ref a))
  tb : TB F H
structure Grow (ow ow' : Addr → Prop) (F H F' H' : Hp) : Prop where
  ext : Same F F'
  keep : ∀ b o, H b = some o → noT o → ¬ ow b → H' b = some o
  kt : ∀ b ps, H b = some (.tbl ps) → ¬ ow b → ∃ ps', H' b = some (.tbl ps')
  new : ∀ b, F' b ≠ none → F b ≠ none ∨ H b = none ∨ ow b
  ows : ∀ b, ow' b → ow b ∨ H b = none
section
variable {ow ow1 ow2 : Addr → Prop} {F H F1 H1 F2 H2 : Hp}
theorem Grow.refl : Grow ow ow F H F H := ⟨Same.refl _, fun _ _ h _ _ => h, fun _ ps h _ => ⟨ps, h⟩, fun _ h => .inl h, fun _ h => .inl h⟩
theorem Grow.back (g : Grow ow ow1 F H F1 H1) {b : Addr} (h : H1 b = none) : H b = none ∨ ow b := by
  by_cases hb : ow b
  · exact .inr hb
  · cases e : H b with
    | none => exact .inl rfl
    | some o =>
      by_cases n : noT o
      · rw [g.keep b o e n hb] at h; cases h
      · obtain ⟨ps, rfl⟩ : ∃ ps, o = .tbl ps := Classical.byContradiction fun z => n fun ps q => z ⟨ps, q⟩
        obtain ⟨ps', q⟩ := g.kt b ps e hb
        rw [q] at h; cases h
theorem Grow.trans (g : Grow ow ow1 F H F1 H1) (g' : Grow ow1 ow2 F1 H1 F2 H2) : Grow ow ow2 F H F2 H2 := by
  have key : ∀ b o, H b = some o → ¬ ow b → ¬ ow1 b := fun b o h n h1 => by
    rcases g.ows b h1 with z | z
    · exact n z
    · rw [h] at z; cases z
  refine ⟨g.ext.trans g'.ext, fun b o h t n => g'.keep b o (g.keep b o h t n) t (key b o h n), fun b ps h n => ?_, fun b h => ?_, fun b h => ?_⟩
  · obtain ⟨ps1, h1⟩ := g.kt b ps h n
    exact g'.kt b ps1 h1 (key b _ h n)
  · rcases g'.new b h with z | z | z
    · exact g.new b z
    · exact .inr (g.back z)
    · rcases g.ows b z with y | y
      · exact .inr (.inr y)
      · exact .inr (.inl y)
  · rcases g'.ows b h with z | z
    · exact g.ows b z
    · rcases g.back z with y | y
      · exact .inr y
      · exact .inl y
theorem Grow.less (g : Grow ow ow1 F H F1 H1) (h : ∀ b, ow2 b → ow1 b) : Grow ow ow2 F H F1 H1 := ⟨g.ext, g.keep, g.kt, g.new, fun b z => g.ows b (h b z)⟩
theorem Grow.laid {p : Addr} {o : HO} (hp : H p = none) (fp : F p = none) : Grow ow ow F H (upd F p o) (upd H p o) := by
  refine ⟨fun b u h => ?_, fun b u h _ _ => ?_, fun b ps h _ => ⟨ps, ?_⟩, fun b h => ?_, fun b h => .inl h⟩
  · rw [upd_ne (ne_of_none h fp)]; exact h
  · rw [upd_ne (ne_of_none h hp)]; exact h
  · rw [upd_ne (ne_of_none h hp)]; exact h
  · by_cases e : b = p
    · subst e; exact .inr (.inl hp)
    · rw [upd_ne e] at h; exact .inl h
theorem Grow.fresh {p : Addr} {o : HO} (hp : H p = none) : Grow ow ow F H F (upd H p o) :=
  ⟨Same.refl _, fun b u h _ _ => by rw [upd_ne (ne_of_none h hp)]; exact h, fun b ps h _ => ⟨ps, by rw [upd_ne (ne_of_none h hp)]; exact h⟩, fun b h => .inl h, fun b h => .inl h⟩
theorem Grow.fix {p : Addr} {o : HO} (fp : F1 p = none) (g : Grow ow ow1 F H F1 H1) (hp : H p = none ∨ ow p) : Grow ow ow1 F H (upd F1 p o) H1 := by
  refine ⟨fun b u h => ?_, g.keep, g.kt, fun b h => ?_, g.ows⟩
  · have := g.ext b u h
    rw [upd_ne (ne_of_none this fp)]; exact this
  · by_cases e : b = p
    · subst e; exact .inr hp
    · rw [upd_ne e] at h; exact g.new b h
theorem Grow.wr {p : Addr} {o : HO} (h : ow p) : Grow ow ow F H F (upd H p o) :=
  ⟨Same.refl _, fun b u e _ n => by rw [upd_ne (fun z => n (by rw [z]; exact h))]; exact e, fun b ps e n => ⟨ps, by rw [upd_ne (fun z => n (by rw [z]; exact h))]; exact e⟩, fun b h => .inl h, fun b h => .inl h⟩
end
section
variable {F H F' H' : Hp} {σ : St} {ρ : Rho} {p : Addr} {o : HO} {v : V} {r : OD}
theorem KO_noT (w : World) (a : Addr) (L) : noT (KO w a L) := fun _ z => by unfold KO at z; cases z
theorem OR.keep (h : OR K F H v r) (e : Same F F') (hk : ∀ a, v = .ref a → r.isO = true → F' a = none ∧ ∀ u, H a = some u → noT u → H' a = some u) : OR K F' H' v r := by
  cases r with
  | sh d => exact DV.mono e h
  | sc ns =>
    obtain ⟨a, rfl, h⟩ := h
    exact ⟨a, rfl, e.seq h⟩
  | ol xs =>
    obtain ⟨a, vs, rfl, h1, h2, h3⟩ := h
    obtain ⟨k1, k2⟩ := hk a rfl rfl
    exact ⟨a, vs, rfl, k1, k2 _ h2 (fun _ z => by cases z), DVs.mono e h3⟩
  | od kvs =>
    obtain ⟨a, vs, rfl, h1, h2, h3⟩ := h
    obtain ⟨k1, k2⟩ := hk a rfl rfl
    exact ⟨a, vs, rfl, k1, k2 _ h2 (fun _ z => by cases z), KD.mono e h3⟩
  | kd kvs =>
    obtain ⟨a, vs, rfl, h1, h2, h3⟩ := h
    obtain ⟨k1, k2⟩ := hk a rfl rfl
    exact ⟨a, vs, rfl, k1, k2 _ h2 (KO_noT _ _ _), KN.mono e h3⟩
  | sd kvs =>
    obtain ⟨a, vs, rfl, h1, h3⟩ := h
    exact ⟨a, vs, rfl, h1.mono e, KD.mono e h3⟩
  | sn kvs =>
    obtain ⟨a, vs, rfl, h1, h3⟩ := h
    exact ⟨a, vs, rfl, h1.mono e, KN.mono e h3⟩
  | en nm flds =>
    obtain ⟨a, Cl, dd, oe, vs, rfl, h1, h2, h3, h4, h5⟩ := h
    exact ⟨a, Cl, dd, oe, vs, rfl, h1, h2, h3, e _ _ h4, DVs.mono e h5⟩
  | fn nm => exact h
  | lam caps =>
    obtain ⟨li, h1, h2, h3, h4⟩ := h
    exact ⟨li, h1, h2, e _ _ h3, fun x hx => by
      obtain ⟨u, u1, u2⟩ := h4 x hx
      exact ⟨u, u1, DV.mono e u2⟩⟩
  | ts os =>
    obtain ⟨a, vs, rfl, h1, h2⟩ := h
    exact ⟨a, vs, rfl, e.sqT h1, SDs.mono e h2⟩
theorem OR.refs (h : OR K F H v r) (i : r.isO = true) : ∃ a u, v = .ref a ∧ F a = none ∧ H a = some u := by
  cases r with
  | sh d => cases i
  | sc ns => cases i
  | sd ns => cases i
  | sn ns => cases i
  | en _ _ => cases i
  | ts _ => cases i
  | lam _ => cases i
  | fn _ => cases i
  | ol xs => obtain ⟨a, vs, rfl, h1, h2, h3⟩ := h; exact ⟨a, _, rfl, h1, h2⟩
  | od kvs => obtain ⟨a, vs, rfl, h1, h2, h3⟩ := h; exact ⟨a, _, rfl, h1, h2⟩
  | kd kvs => obtain ⟨a, vs, rfl, h1, h2, h3⟩ := h; exact ⟨a, _, rfl, h1, h2⟩
theorem OR.noT (h : OR K F H v r) (i : r.isO = true) {a : Addr} {u : HO} (e : v = .ref a) (hu : H a = some u) : noT u := by
  cases r with
  | sh d => cases i
  | sc ns => cases i
  | sd ns => cases i
  | sn ns => cases i
  | en _ _ => cases i
  | ts _ => cases i
  | lam _ => cases i
  | fn _ => cases i
  | ol xs => obtain ⟨b, vs, e2, h1, h2, h3⟩ := h; rw [e] at e2; cases e2; rw [hu] at h2; cases h2; exact fun _ z => by cases z
  | od kvs => obtain ⟨b, vs, e2, h1, h2, h3⟩ := h; rw [e] at e2; cases e2; rw [hu] at h2; cases h2; exact fun _ z => by cases z
  | kd kvs => obtain ⟨b, vs, e2, h1, h2, h3⟩ := h; rw [e] at e2; cases e2; rw [hu] at h2; cases h2; exact KO_noT _ _ _
theorem own.at (s : SR K F H σ ρ) (h : own σ ρ p) : F p = none ∧ ∃ u, H p = some u := by
  obtain ⟨i, o, e1, e2, e3⟩ := h
  obtain ⟨v, e4, e5⟩ := s.sl i o e1
  rw [e3] at e4; cases e4
  obtain ⟨a, u, z, h1, h2⟩ := e5.refs e2
  cases z
  exact ⟨h1, u, h2⟩
theorem own.noT (s : SR K F H σ ρ) (h : own σ ρ p) {u : HO} (hu : H p = some u) : noT u := by
  obtain ⟨i, o, e1, e2, e3⟩ := h
  obtain ⟨v, e4, e5⟩ := s.sl i o e1
  rw [e3] at e4; cases e4
  exact e5.noT e2 rfl hu
theorem SR.on (s : SR K F H σ ρ) (e : Same F F') (sub : Same F' H') (tb : TB F' H') (hk : ∀ a, own σ ρ a → F' a = none ∧ ∀ u, H a = some u → noT u → H' a = some u) : SR K F' H' σ ρ := by
  refine ⟨sub, s.len, fun i o h => ?_, s.sep, tb⟩
  obtain ⟨v, e1, e2⟩ := s.sl i o h
  exact ⟨v, e1, e2.keep e fun a ha io => hk a ⟨i, o, h, io, by rw [e1, ha]⟩⟩
theorem SR.laid (s : SR K F H σ ρ) (hp : H p = none) (nt : noT o := by intro _ z; cases z) : SR K (upd F p o) (upd H p o) σ ρ := by
  have fp : F p = none := s.sub.free hp
  refine s.on (fun b u h => by rw [upd_ne (ne_of_none h fp)]; exact h) (fun b u h => ?_) (s.tb.on (fun b u h => by rw [upd_ne (ne_of_none h fp)]; exact h) (nt_upd s.tb.nt nt) fun P ps h1 h2 => ⟨by rw [upd_ne (ne_of_none h2 hp)]; exact h1, by rw [upd_ne (ne_of_none h2 hp)]; exact h2⟩) fun a ha => ?_
  · by_cases e : b = p
    · subst e; rw [upd_same] at h ⊢; exact h
    · rw [upd_ne e] at h ⊢; exact s.sub b u h
  · obtain ⟨h1, u, h2⟩ := own.at s ha
    have ne : a ≠ p := ne_of_none h2 hp
    exact ⟨by rw [upd_ne ne]; exact h1, fun u h _ => by rw [upd_ne ne]; exact h⟩
theorem SR.fresh (s : SR K F H σ ρ) (hp : H p = none) : SR K F (upd H p o) σ ρ := by
  refine s.on (Same.refl _) (fun b u h => ?_) (s.tb.on (fun _ _ h => h) s.tb.nt fun P ps h1 h2 => ⟨h1, by rw [upd_ne (ne_of_none h2 hp)]; exact h2⟩) fun a ha => ?_
  · have := s.sub b u h
    rw [upd_ne (ne_of_none this hp)]; exact this
  · obtain ⟨h1, u, h2⟩ := own.at s ha
    exact ⟨h1, fun u h _ => by rw [upd_ne (ne_of_none h2 hp)]; exact h⟩
theorem SR.fix (s : SR K F H σ ρ) (no : ¬ own σ ρ p) (h : H p = some o) (fp : F p = none) (nt : noT o) : SR K (upd F p o) H σ ρ := by
  refine s.on (fun b u h => by rw [upd_ne (ne_of_none h fp)]; exact h) (fun b u q => ?_) (s.tb.on (fun b u h => by rw [upd_ne (ne_of_none h fp)]; exact h) (nt_upd s.tb.nt nt) fun P ps h1 h2 => ⟨by rw [upd_ne (fun z => nt ps (by rw [z, h] at h2; exact Option.some.inj h2))]; exact h1, h2⟩) fun a ha => ?_
  · by_cases e : b = p
    · subst e; rw [upd_same] at q; rw [← q]; exact h
    · rw [upd_ne e] at q; exact s.sub b u q
  · obtain ⟨h1, u, h2⟩ := own.at s ha
    exact ⟨by rw [upd_ne (fun z => no (by rw [← z]; exact ha))]; exact h1, fun u h _ => h⟩
end
structure Ct where
  K : Kw
  W : WX
  XR : Hp → Hp → Value → Option Addr → Xc → Prop
abbrev RRel (α : Type) := Hp → Hp → St → Rho → Rho → Hp → V → α → Prop
def PostE {α β : Type} (C : Ct) (RR : Hp → Hp → St → Rho → Rho → Hp → β → α → Prop) (σ : St) (ρ : Rho) (F H : Hp) (Q : β → Hp → Prop) : Res α → Prop
  | .ok r ρ' => ∀ F' H' v, Grow (own σ ρ) (own σ ρ') F H F' H' → SR C.K F' H' σ ρ' → RR F' H' σ ρ' ρ H v r → Q v H'
  | .ex x ρ' => ∀ F' H' cls d, Grow (own σ ρ) (own σ ρ') F H F' H' → SR C.K F' H' σ ρ' → C.XR F' H' cls d x → C.W cls d σ H'
  | .bad => False
def rD (K : Kw) : RRel PyData := fun F' _ _ _ _ _ v d => DV K F' v d
def rO (K : Kw) : RRel OD := fun F' H' σ ρ' ρ H v r => OR K F' H' v r ∧ (r.isO = true → ∀ a, v = .ref a → ¬ own σ ρ' a ∧ (H a = none ∨ own σ ρ a))
def rP (K : Kw) : RRel PyData := fun _ H' _ _ _ _ v d => DV K H' v d
def tD (C : Ct) (m : M PyData) : TE := fun σ H Q => ∃ F ρ, SR C.K F H σ ρ ∧ PostE C (rD C.K) σ ρ F H Q (m ρ)
def tO (C : Ct) (m : M OD) : TE := fun σ H Q => ∃ F ρ, SR C.K F H σ ρ ∧ PostE C (rO C.K) σ ρ F H Q (m ρ)
def tP (C : Ct) (m : M PyData) : TE := fun σ H Q => ∃ F ρ, SR C.K F H σ ρ ∧ PostE C (rP C.K) σ ρ F H Q (m ρ)
def tT (C : Ct) (m : M Bool) : TT := fun σ H Q => ∃ F ρ, SR C.K F H σ ρ ∧ PostE (β := Bool) C (fun _ _ _ _ _ _ v d => v = d) σ ρ F H Q (m ρ)
section
variable {α β γ : Type} {C : Ct} {σ : St} {ρ ρ1 : Rho} {F H F1 H1 : Hp}
theorem PostE.step {RR RR' : Hp → Hp → St → Rho → Rho → Hp → β → α → Prop} {Q : β → Hp → Prop} {x : Res α} (g : Grow (own σ ρ) (own σ ρ1) F H F1 H1)
    (h : PostE C RR σ ρ F H Q x) (hr : ∀ F' H' ρ' v r, Grow (own σ ρ1) (own σ ρ') F1 H1 F' H' → RR' F' H' σ ρ' ρ1 H1 v r → RR F' H' σ ρ' ρ H v r) : PostE C RR' σ ρ1 F1 H1 Q x := by
  cases x with
  | ok r ρ' => exact fun F' H' v g' s r' => h F' H' v (g.trans g') s (hr _ _ _ _ _ g' r')
  | ex x ρ' => exact fun F' H' cls d g' s r' => h F' H' cls d (g.trans g') s r'
  | bad => exact h
theorem PostE.part {δ : Type} {RA : Hp → Hp → St → Rho → Rho → Hp → β → α → Prop} {RR : Hp → Hp → St → Rho → Rho → Hp → δ → γ → Prop} {Q : δ → Hp → Prop} {R : β → Hp → Prop} {ma : M α} {f : α → M γ}
    (h : PostE C RR σ ρ F H Q (ma.bind f ρ))
    (k : ∀ a ρ' F' H' v, ma ρ = .ok a ρ' → PostE C RR σ ρ F H Q (f a ρ') → Grow (own σ ρ) (own σ ρ') F H F' H' → SR C.K F' H' σ ρ' → RA F' H' σ ρ' ρ H v a → R v H') : PostE C RA σ ρ F H R (ma ρ) := by
  unfold M.bind at h
  cases e : ma ρ with
  | ok a ρ' => rw [e] at h; exact fun F' H' v g s r => k a ρ' F' H' v e h g s r
  | ex x ρ' => rw [e] at h; exact h
  | bad => rw [e] at h; exact h
end
def fz (o : OD) : M PyData := match o with
  | .sh d => M.ret d
  | .ol xs => M.ret (.list xs)
  | _ => M.bad
section
variable {X : Cx} {e : Expr} {C : Ct}
theorem o_of_d {m : M PyData} (h : PE X e (tD C m)) : PE X e (tO C (m.bind fun d => M.ret (.sh d))) := by
  refine ⟨fun pins s σ H Q I q => h.run pins s σ H Q I ?_⟩
  obtain ⟨F, ρ, sr, p⟩ := q
  exact ⟨F, ρ, sr, p.part fun a ρ' F' H' v _ q g s r => q F' H' v g s ⟨r, fun z => by cases z⟩⟩
theorem d_of_o {m : M OD} (h : PE X e (tO C m)) : PE X e (tD C (m.bind fz)) := by
  refine ⟨fun pins s σ H Q I q => h.run pins s σ H Q I ?_⟩
  obtain ⟨F, ρ, sr, p⟩ := q
  refine ⟨F, ρ, sr, p.part fun a ρ' F' H' v _ q g s r => ?_⟩
  cases a with
  | sh d => exact q F' H' v g s r.1
  | od kvs => exact q.elim
  | kd kvs => exact q.elim
  | sd kvs => exact q.elim
  | sn kvs => exact q.elim
  | en _ _ => exact q.elim
  | ts _ => exact q.elim
  | lam _ => exact q.elim
  | fn _ => exact q.elim
  | sc kvs => exact q.elim
  | ol xs =>
    obtain ⟨⟨a, vs, rfl, h1, h2, h3⟩, h4⟩ := r
    obtain ⟨n1, n2⟩ := h4 rfl a rfl
    refine q (upd F' a (.lst vs)) H' (.ref a) (g.fix h1 n2) (s.fix n1 h2 h1 (fun _ z => by cases z)) ?_
    exact .lst upd_same (DVs.mono (fun b u h => by rw [upd_ne (ne_of_none h h1)]; exact h) h3)
end
end
end Eg
namespace Eg
open PySem L2 PySem.W PySem.SeqAt
section
variable [Tbs] {X : Cx} {C : Ct} {e a b : Expr} {pos : Pos}
theorem _root_.L2.PE.imp {t t' : TE} (h : PE X e t) (i : ∀ σ H Q, t' σ H Q → t σ H Q) : PE X e t' := ⟨fun pins s σ H Q I q => h.run pins s σ H Q I (i _ _ _ q)⟩
def atom : PyData → Option V
  | .none => some .non
  | .bool b => some (.bl b)
  | .int i => some (.int i)
  | .str x => some (.str x)
  | _ => none
theorem atom_dv {K : Kw} {H : Hp} {d : PyData} {v : V} (h : atom d = some v) : DV K H v d := by
  cases d <;> simp [atom] at h <;> subst h <;> constructor
theorem d_c {t : TE} {v : V} {d : PyData} (h : PE X e (tC v)) (hd : atom d = some v) : PE X e (tD C (M.ret d)) :=
  h.imp fun σ H Q ⟨F, ρ, sr, p⟩ => p F H v Grow.refl sr (atom_dv hd)
theorem d_int {i : Int} {j} : PE X (.Constant (.int i) j pos) (tD C (M.ret (.int i))) := d_c (t := tC (.int i)) pe_int rfl
theorem d_str {i : Str} {j} : PE X (.Constant (.str i) j pos) (tD C (M.ret (.str i))) := d_c (t := tC (.str i)) pe_str rfl
theorem d_bool {i : Bool} {j} : PE X (.Constant (.bool i) j pos) (tD C (M.ret (.bool i))) := d_c (t := tC (.bl i)) pe_bl rfl
theorem d_none {j} : PE X (.Constant .none j pos) (tD C (M.ret .none)) := d_c (t := tC .non) pe_non rfl
theorem SR.wipe {K : Kw} {F H : Hp} {σ : St} {ρ : Rho} (i : Nat) (s : SR K F H σ ρ) : SR K F H σ (ρ.set i none) := by
  refine ⟨s.sub, by rw [List.length_set]; exact s.len, fun j o h => ?_, fun j k o o' a ne h1 i1 h2 i2 => ?_, s.tb⟩
  · by_cases e : i = j
    · subst e
      by_cases hl : i < ρ.length
      · rw [List.getElem?_set_self hl] at h; cases h
      · rw [List.getElem?_eq_none (by rw [List.length_set]; omega)] at h; cases h
    · rw [List.getElem?_set_ne e] at h; exact s.sl j o h
  · have go : ∀ {j : Nat} {o : OD}, (ρ.set i none)[j]? = some (some o) → ρ[j]? = some (some o) := fun {j o} h => by
      by_cases e : i = j
      · subst e
        by_cases hl : i < ρ.length
        · rw [List.getElem?_set_self hl] at h; cases h
        · rw [List.getElem?_eq_none (by rw [List.length_set]; omega)] at h; cases h
      · rw [List.getElem?_set_ne e] at h; exact h
    exact s.sep j k o o' a ne (go h1) i1 (go h2) i2
theorem own.wipe {σ : St} {ρ : Rho} {i : Nat} {b : Addr} (h : own σ (ρ.set i none) b) : own σ ρ b ∧ ∀ o a, ρ[i]? = some (some o) → σ[i]? = some (some (.ref a)) → True := by
  refine ⟨?_, fun _ _ _ _ => trivial⟩
  obtain ⟨j, o, e1, e2, e3⟩ := h
  by_cases e : i = j
  · subst e
    by_cases hl : i < ρ.length
    · rw [List.getElem?_set_self hl] at e1; cases e1
    · rw [List.getElem?_eq_none (by rw [List.length_set]; omega)] at e1; cases e1
  · rw [List.getElem?_set_ne e] at e1; exact ⟨j, o, e1, e2, e3⟩
theorem own.wipeNe {K : Kw} {F H : Hp} {σ : St} {ρ : Rho} {i : Nat} {o : OD} {a : Addr} (s : SR K F H σ ρ) (h : ρ[i]? = some (some o)) (io : o.isO = true) (ha : σ[i]? = some (some (.ref a))) : ¬ own σ (ρ.set i Option.none) a := by
  rintro ⟨j, o', e1, e2, e3⟩
  by_cases e : i = j
  · subst e
    have hl : i < ρ.length := (List.getElem?_eq_some_iff.mp h).1
    rw [List.getElem?_set_self hl] at e1; cases e1
  · rw [List.getElem?_set_ne e] at e1
    exact s.sep i j o o' a e h io e1 e2 ha e3
theorem SR.put {K : Kw} {F H : Hp} {σ : St} {ρ : Rho} {i : Nat} {v : V} {o : OD} (s : SR K F H σ ρ) (hv : σ[i]? = some (some v)) (h : OR K F H v o) (no : o.isO = true → ∀ a, v = .ref a → ¬ own σ (ρ.set i none) a) : SR K F H σ (ρ.set i (some o)) := by
  have n := s.wipe i
  have hl : i < ρ.length := by rw [s.len]; exact (List.getElem?_eq_some_iff.mp hv).1
  have same : ∀ {j : Nat}, i ≠ j → (ρ.set i (some o))[j]? = (ρ.set i none)[j]? := fun {j} e => by rw [List.getElem?_set_ne e, List.getElem?_set_ne e]
  refine ⟨s.sub, by rw [List.length_set]; exact s.len, fun j u hj => ?_, fun j k u u' a ne h1 i1 h2 i2 h3 h4 => ?_, s.tb⟩
  · by_cases e : i = j
    · subst e
      rw [List.getElem?_set_self hl] at hj
      cases hj
      exact ⟨v, hv, h⟩
    · rw [same e] at hj; exact n.sl j u hj
  · by_cases ej : i = j
    · subst ej
      rw [List.getElem?_set_self hl] at h1
      cases h1
      rw [same ne] at h2
      rw [hv] at h3
      exact no i1 a (Option.some.inj (Option.some.inj h3)) ⟨k, u', h2, i2, h4⟩
    · rw [same ej] at h1
      by_cases ek : i = k
      · subst ek
        rw [List.getElem?_set_self hl] at h2
        cases h2
        rw [hv] at h4
        exact no i2 a (Option.some.inj (Option.some.inj h4)) ⟨j, u, h1, i1, h3⟩
      · rw [same ek] at h2
        exact n.sep j k u u' a ne h1 i1 h2 i2 h3 h4
theorem own.put {σ : St} {ρ : Rho} {i : Nat} {o : OD} {b : Addr} (h : own σ (ρ.set i (some o)) b) : own σ (ρ.set i none) b ∨ (o.isO = true ∧ σ[i]? = some (some (.ref b))) := by
  obtain ⟨j, o', e1, e2, e3⟩ := h
  by_cases e : i = j
  · subst e
    by_cases hl : i < ρ.length
    · rw [List.getElem?_set_self hl] at e1; cases e1; exact .inr ⟨e2, e3⟩
    · rw [List.getElem?_eq_none (by rw [List.length_set]; omega)] at e1; cases e1
  · rw [List.getElem?_set_ne e] at e1
    exact .inl ⟨j, o', by rw [List.getElem?_set_ne e]; exact e1, e2, e3⟩
def mName (i : Nat) : M PyData := fun ρ => match ρ[i]? with
  | some (some (.sh d)) => .ok d ρ
  | some (some (.ol xs)) => .ok (.list xs) (ρ.set i (some (.sh (.list xs))))
  | _ => .bad
def mTake (i : Nat) : M OD := fun ρ => match ρ[i]? with
  | some (some (.sc _)) => .bad
  | some (some o) => .ok o (ρ.set i none)
  | _ => .bad
theorem d_name {i : Nat} (h : PE X e (tVar i)) : PE X e (tD C (mName i)) := by
  refine PE.imp h fun σ H Q ⟨F, ρ, sr, p⟩ => ?_
  unfold mName at p
  cases q : ρ[i]? with
  | none => rw [q] at p; exact p.elim
  | some o =>
    rw [q] at p
    cases o with
    | none => exact p.elim
    | some o =>
      obtain ⟨v, hv, r⟩ := sr.sl i o q
      cases o with
      | sh d => exact ⟨v, hv, p F H v Grow.refl sr r⟩
      | od kvs => exact p.elim
      | kd kvs => exact p.elim
      | sd kvs => exact p.elim
      | sn kvs => exact p.elim
      | en _ _ => exact p.elim
      | ts _ => exact p.elim
      | lam _ => exact p.elim
      | fn _ => exact p.elim
      | sc ns => exact p.elim
      | ol xs =>
        obtain ⟨a, vs, rfl, h1, h2, h3⟩ := r
        refine ⟨_, hv, p (upd F a (.lst vs)) H (.ref a) ?_ ?_ (.lst upd_same (DVs.mono (fun b u h => by rw [upd_ne (ne_of_none h h1)]; exact h) h3))⟩
        · refine Grow.less (Grow.fix h1 Grow.refl (.inr ⟨i, _, q, rfl, hv⟩)) fun b hb => ?_
          rcases hb.put with z | ⟨z, _⟩
          · exact (own.wipe z).1
          · cases z
        · have n := SR.fix (sr.wipe i) (own.wipeNe sr q rfl hv) h2 h1 (fun _ z => by cases z)
          have n2 := SR.put (i := i) (o := .sh (.list xs)) n hv (.lst upd_same (DVs.mono (fun b u h => by rw [upd_ne (ne_of_none h h1)]; exact h) h3)) (fun z => by cases z)
          rw [List.set_set] at n2
          exact n2
theorem o_take {i : Nat} (h : PE X e (tVar i)) : PE X e (tO C (mTake i)) := by
  refine PE.imp h fun σ H Q ⟨F, ρ, sr, p⟩ => ?_
  unfold mTake at p
  cases q : ρ[i]? with
  | none => rw [q] at p; exact p.elim
  | some o =>
    rw [q] at p
    cases o with
    | none => exact p.elim
    | some o =>
      obtain ⟨v, hv, r⟩ := sr.sl i o q
      have fin : PostE C (rO C.K) σ ρ F H Q (.ok o (ρ.set i none)) → ∃ v, σ[i]? = some (some v) ∧ Q v H := fun p =>
        ⟨v, hv, p F H v (Grow.less Grow.refl fun b hb => (own.wipe hb).1) (sr.wipe i) ⟨r, fun io a ha => by
          subst ha
          exact ⟨own.wipeNe sr q io hv, .inr ⟨i, o, q, io, hv⟩⟩⟩⟩
      cases o with
      | sh d => exact fin p
      | od kvs => exact fin p
      | kd kvs => exact fin p
      | sd kvs => exact fin p
      | sn kvs => exact fin p
      | en _ _ => exact fin p
      | ts _ => exact fin p
      | lam _ => exact fin p
      | fn _ => exact fin p
      | sc ns => exact p.elim
      | ol xs => exact fin p
def Stb {β α : Type} (RR : Hp → Hp → St → Rho → Rho → Hp → β → α → Prop) : Prop := ∀ σ ρ ρ1 F H F1 H1 ρ' F' H' v r, Grow (own σ ρ) (own σ ρ1) F H F1 H1 → RR F' H' σ ρ' ρ1 H1 v r → RR F' H' σ ρ' ρ H v r
theorem stb_D {K : Kw} : Stb (rD K) := fun _ _ _ _ _ _ _ _ _ _ _ _ _ r => r
theorem stb_O {K : Kw} : Stb (rO K) := fun _ _ _ _ _ _ _ _ _ _ v r g q => by
  refine ⟨q.1, fun io a e => ⟨(q.2 io a e).1, ?_⟩⟩
  rcases (q.2 io a e).2 with z | z
  · exact g.back z
  · rcases g.ows a z with y | y
    · exact .inr y
    · exact .inl y
theorem PostE.on {β γ : Type} {RR : Hp → Hp → St → Rho → Rho → Hp → β → γ → Prop} {σ : St} {ρ ρ1 : Rho} {F H F1 H1 : Hp} {Q : β → Hp → Prop} {x : Res γ} (h : PostE C RR σ ρ F H Q x) (st : Stb RR) (g : Grow (own σ ρ) (own σ ρ1) F H F1 H1) :
    PostE C RR σ ρ1 F1 H1 Q x := h.step g fun F' H' ρ' v r _ z => st _ _ _ _ _ _ _ _ _ _ _ _ g z
inductive Arg where
  | dat (d : PyData)
  | slot (i : Nat)
  | fr (kvs : List (PyData × PyData))
def res1 (ρ : Rho) : Arg → Option PyData
  | .dat d => some d
  | .fr _ => none
  | .slot i => match ρ[i]? with
    | some (some (.sh d)) => some d
    | some (some (.ol xs)) => some (.list xs)
    | _ => none
def rA (K : Kw) : Hp → Hp → St → Rho → Rho → Hp → V → Arg → Prop := fun F' _ σ _ _ _ v a => match a with
  | .dat d => DV K F' v d
  | .slot i => σ[i]? = some (some v)
  | .fr kvs => ∃ a L, v = .ref a ∧ FrzN F' K.w a L ∧ KN K F' L kvs
def tA (C : Ct) (m : M Arg) : TE := fun σ H Q => ∃ F ρ, SR C.K F H σ ρ ∧ PostE C (rA C.K) σ ρ F H Q (m ρ)
def Vw (K : Kw) (F H : Hp) (v : V) (d : PyData) : Prop := match d with
  | .list ds => ∃ a vs, v = .ref a ∧ H a = some (.lst vs) ∧ DVs K F vs ds
  | d => DV K F v d
theorem Vw.of {K : Kw} {F H : Hp} {v : V} {d : PyData} (h : DV K F v d) (s : Same F H) : Vw K F H v d := by
  cases h with
  | lst h1 h2 => exact ⟨_, _, rfl, s _ _ h1, h2⟩
  | non => exact .non
  | bl b => exact .bl b
  | int b => exact .int b
  | str b => exact .str b
  | tup h1 h2 => exact .tup h1 h2
theorem Vw.dv {K : Kw} {F H : Hp} {v : V} {d : PyData} (h : Vw K F H v d) (s : Same F H) : DV K H v d := by
  cases d with
  | list ds =>
    obtain ⟨a, vs, rfl, h1, h2⟩ := h
    exact .lst h1 (DVs.mono s h2)
  | _ => exact DV.mono s h
theorem rA.view {K : Kw} {F H : Hp} {σ : St} {ρ ρ0 : Rho} {H0 : Hp} {v : V} {a : Arg} {d : PyData} (s : SR K F H σ ρ) (h : rA K F H σ ρ ρ0 H0 v a) (r : res1 ρ a = some d) : Vw K F H v d := by
  cases a with
  | dat e => cases r; exact Vw.of h s.sub
  | fr kvs => cases r
  | slot i =>
    have h : σ[i]? = some (some v) := h
    simp only [res1] at r
    cases q : ρ[i]? with
    | none => rw [q] at r; cases r
    | some o =>
      rw [q] at r
      cases o with
      | none => cases r
      | some o =>
        obtain ⟨v', hv, ro⟩ := s.sl i o q
        rw [h] at hv; cases hv
        cases o with
        | sh e => cases r; exact Vw.of ro s.sub
        | ol xs =>
          cases r
          obtain ⟨a, vs, e1, h1, h2, h3⟩ := ro
          exact ⟨a, vs, e1, h2, h3⟩
        | od _ => cases r
        | kd _ => cases r
        | sd _ => cases r
        | sn _ => cases r
        | en _ _ => cases r
        | ts _ => cases r
        | lam _ => cases r
        | fn _ => cases r
        | sc _ => cases r
theorem rA.mono {K : Kw} {F H F' H' : Hp} {σ : St} {ρ ρ0 ρ' ρ0' : Rho} {H0 H0' : Hp} {v : V} {a : Arg} (e : Same F F') (h : rA K F H σ ρ ρ0 H0 v a) : rA K F' H' σ ρ' ρ0' H0' v a := by
  cases a with
  | dat d => exact DV.mono e h
  | slot i => exact h
  | fr kvs =>
    obtain ⟨a, L, h1, h2, h3⟩ := h
    exact ⟨a, L, h1, h2.mono e, KN.mono e h3⟩
theorem a_of_d {m : M PyData} (h : PE X e (tD C m)) : PE X e (tA C (m.bind fun d => M.ret (.dat d))) :=
  h.imp fun σ H Q ⟨F, ρ, sr, p⟩ => ⟨F, ρ, sr, p.part fun d ρ1 F1 H1 x e1 q1 g1 s1 r1 => q1 F1 H1 x g1 s1 r1⟩
def mSlot (i : Nat) : M Arg := fun ρ => match ρ[i]? with
  | some (some _) => .ok (.slot i) ρ
  | _ => .bad
theorem a_name {i : Nat} (h : PE X e (tVar i)) : PE X e (tA C (mSlot i)) := by
  refine PE.imp h fun σ H Q ⟨F, ρ, sr, p⟩ => ?_
  unfold mSlot at p
  cases q : ρ[i]? with
  | none => rw [q] at p; exact p.elim
  | some o =>
    rw [q] at p
    cases o with
    | none => exact p.elim
    | some o =>
      obtain ⟨v, hv, r⟩ := sr.sl i o q
      exact ⟨v, hv, p F H v Grow.refl sr hv⟩
theorem one {δ γ : Type} {ma : M Arg} {g : Arg → M γ} {RR : Hp → Hp → St → Rho → Rho → Hp → δ → γ → Prop} {σ : St} {ρ : Rho} {F H : Hp} {Q : δ → Hp → Prop} {R : V → Hp → Prop}
    (sr : SR C.K F H σ ρ) (st : Stb RR) (p : PostE C RR σ ρ F H Q (ma.bind g ρ))
    (k : ∀ x a ρ1 F1 H1, SR C.K F1 H1 σ ρ1 → Grow (own σ ρ) (own σ ρ1) F H F1 H1 → rA C.K F1 H1 σ ρ1 ρ H x a → PostE C RR σ ρ1 F1 H1 Q (g a ρ1) → R x H1) : tA C ma σ H R :=
  ⟨F, ρ, sr, p.part fun d ρ1 F1 H1 x e1 q1 g1 s1 r1 => k x d ρ1 F1 H1 s1 g1 r1 (q1.on st g1)⟩
def M.get : M Rho := fun ρ => .ok ρ ρ
def m2 {γ : Type} (g : PyData → PyData → Option γ) (ma mb : M Arg) : M γ := ma.bind fun a => mb.bind fun b => M.get.bind fun ρ => M.lift (do g (← res1 ρ a) (← res1 ρ b))
def m1 {γ : Type} (g : PyData → Option γ) (ma : M Arg) : M γ := ma.bind fun a => M.get.bind fun ρ => M.lift (do g (← res1 ρ a))
theorem lift_some {γ : Type} {RR : Hp → Hp → St → Rho → Rho → Hp → V → γ → Prop} {σ : St} {ρ ρ0 : Rho} {F H : Hp} {Q : VK} {x : Option γ} (p : PostE C RR σ ρ0 F H Q (M.lift x ρ)) : ∃ d, x = some d ∧ PostE C RR σ ρ0 F H Q (.ok d ρ) := by
  cases x with
  | none => exact p.elim
  | some d => exact ⟨d, rfl, p⟩
theorem two {γ : Type} {ma mb : M Arg} {g : PyData → PyData → Option γ} {RR : Hp → Hp → St → Rho → Rho → Hp → V → γ → Prop} {σ : St} {ρ : Rho} {F H : Hp} {Q : VK} {R : V → V → Hp → Prop}
    (sr : SR C.K F H σ ρ) (st : Stb RR) (p : PostE C RR σ ρ F H Q (m2 g ma mb ρ))
    (k : ∀ x y dx dy d ρ2 F2 H2, SR C.K F2 H2 σ ρ2 → Vw C.K F2 H2 x dx → Vw C.K F2 H2 y dy → g dx dy = some d → PostE C RR σ ρ2 F2 H2 Q (.ok d ρ2) → R x y H2) :
    tA C ma σ H fun x H1 => tA C mb σ H1 fun y H2 => R x y H2 :=
  one sr st p fun x a ρ1 F1 H1 s1 g1 r1 q1 => one s1 st q1 fun y b ρ2 F2 H2 s2 g2 r2 q2 => by
    obtain ⟨d, e, q⟩ := lift_some q2
    cases e1 : res1 ρ2 a with
    | none => rw [e1] at e; cases e
    | some dx =>
      cases e2 : res1 ρ2 b with
      | none => rw [e1, e2] at e; cases e
      | some dy =>
        rw [e1, e2] at e
        exact k x y dx dy d ρ2 F2 H2 s2 (rA.view (ρ0 := ρ) (H0 := H) s2 (rA.mono g2.ext r1) e1) (r2.view s2 e2) e q
def OpD (X : Cx) (f : Value → Value → Sem Value) (g : PyData → PyData → Option PyData) : Prop :=
  ∀ (pins : List (Addr × Obj)) (s : Shared) (σ : St) (H : Hp) (x y : V) (v u : Value) (dx dy d : PyData) (Q : VK), Inv X pins σ H s → RelV x v → RelV y u → DV X.KW H x dx → DV X.KW H y dy → g dx dy = some d →
    (∀ w, atom d = some w → Q w H) → wpAny (model X.prog X.w) X.A (f v u) (EP X pins σ Q) X.xe s
inductive Alloc (K : Kw) (F H : Hp) : Hp → Hp → V → OD → Prop
  | asis {v : V} {d : PyData} : DV K F v d → Alloc K F H F H v (.sh d)
  | tup {p : Addr} {vs : List V} {ds : List PyData} : H p = none → DVs K F vs ds → Alloc K F H (upd F p (.tup vs)) (upd H p (.tup vs)) (.ref p) (.sh (.tuple ds))
  | lst {p : Addr} {vs : List V} {ds : List PyData} : H p = none → DVs K F vs ds → Alloc K F H F (upd H p (.lst vs)) (.ref p) (.ol ds)
  | od {p : Addr} {es : List (Key × V)} {kvs : List (Key × PyData)} : H p = none → KD K F es kvs → Alloc K F H F (upd H p (.dK es)) (.ref p) (.od kvs)
theorem DVs.upd {K : Kw} {F : Hp} {p : Addr} {o : HO} {vs : List V} {ds : List PyData} (fp : F p = none) (h : DVs K F vs ds) : DVs K (L2.upd F p o) vs ds := DVs.mono (fun b u h => by rw [upd_ne (ne_of_none h fp)]; exact h) h
theorem Alloc.post {F H F' H' : Hp} {σ : St} {ρ : Rho} {v : V} {o : OD} {Q : VK} (s : SR C.K F H σ ρ) (h : Alloc C.K F H F' H' v o) (q : PostE C (rO C.K) σ ρ F H Q (.ok o ρ)) : Q v H' := by
  cases h with
  | asis h => exact q F H v Grow.refl s ⟨h, fun z => by cases z⟩
  | tup hp h =>
    have fp := s.sub.free hp
    exact q _ _ _ (Grow.laid hp fp) (s.laid hp) ⟨.tup (.inl (.inl upd_same)) (h.upd fp), fun z => by cases z⟩
  | @lst p vs ds hp h =>
    have fp := s.sub.free hp
    refine q _ _ _ (Grow.fresh hp) (s.fresh hp) ⟨⟨p, vs, rfl, fp, upd_same, h⟩, fun _ a e => ⟨fun z => ?_, .inl ?_⟩⟩
    · cases e
      obtain ⟨_, u, e2⟩ := own.at s z
      rw [hp] at e2; cases e2
    · cases e; exact hp
  | @od p es kvs hp h =>
    have fp := s.sub.free hp
    refine q _ _ _ (Grow.fresh hp) (s.fresh hp) ⟨⟨p, es, rfl, fp, upd_same, h⟩, fun _ a e => ⟨fun z => ?_, .inl ?_⟩⟩
    · cases e
      obtain ⟨_, u, e2⟩ := own.at s z
      rw [hp] at e2; cases e2
    · cases e; exact hp
def OpO (X : Cx) (f : Value → Value → Sem Value) (g : PyData → PyData → Option OD) : Prop :=
  ∀ (pins : List (Addr × Obj)) (s : Shared) (σ : St) (F H : Hp) (x y : V) (v u : Value) (dx dy : PyData) (o : OD) (Q : VK), Inv X pins σ H s → RelV x v → RelV y u → Same F H → Vw X.KW F H x dx → Vw X.KW F H y dy → g dx dy = some o →
    (∀ F' H' w, Alloc X.KW F H F' H' w o → Q w H') → wpAny (model X.prog X.w) X.A (f v u) (EP X pins σ Q) X.xe s
theorem d_op {op : Operator} {g : PyData → PyData → Option PyData} {ma mb : M Arg} (ho : OpD X (binaryOp op) g) (ha : PE X a (tA C ma)) (hb : PE X b (tA C mb)) (hK : X.KW = C.K := by rfl) : PE X (.BinOp a op b pos) (tD C (m2 g ma mb)) := by
  refine ⟨fun pins s σ H Q I ⟨F, ρ, sr, p⟩ => ?_⟩
  refine wpAny_BinOp (binT ha hb (R := fun x y H2 => ∃ dx dy d ρ2 F2, SR C.K F2 H2 σ ρ2 ∧ Vw C.K F2 H2 x dx ∧ Vw C.K F2 H2 y dy ∧ g dx dy = some d ∧ PostE C (rD C.K) σ ρ2 F2 H2 Q (.ok d ρ2)) I (two sr stb_D p fun x y dx dy d ρ2 F2 H2 s2 r1 r2 e q => ⟨dx, dy, d, ρ2, F2, s2, r1, r2, e, q⟩)
    fun v u s2 x y H2 I2 rx ry ⟨dx, dy, d, ρ2, F2, s2', r1, r2, hg, q⟩ => ?_)
  exact ho pins s2 σ H2 x y v u dx dy d Q I2 rx ry (hK ▸ r1.dv s2'.sub) (hK ▸ r2.dv s2'.sub) hg fun w hw => q F2 H2 w Grow.refl s2' (atom_dv hw)
theorem d_cmp {op : CmpOp} {g : PyData → PyData → Option PyData} {ma mb : M Arg} (ho : OpD X (compareOp op) g) (ha : PE X a (tA C ma)) (hb : PE X b (tA C mb)) (hK : X.KW = C.K := by rfl)
    (h1 : behindInMarks op b = false := by first | exact nobehind _ (by decide) (by decide) | rfl) : PE X (.Compare a [op] [b] pos) (tD C (m2 g ma mb)) := by
  refine ⟨fun pins s σ H Q I ⟨F, ρ, sr, p⟩ => ?_⟩
  refine wpAny_Compare1 (binT ha hb (R := fun x y H2 => ∃ dx dy d ρ2 F2, SR C.K F2 H2 σ ρ2 ∧ Vw C.K F2 H2 x dx ∧ Vw C.K F2 H2 y dy ∧ g dx dy = some d ∧ PostE C (rD C.K) σ ρ2 F2 H2 Q (.ok d ρ2)) I (two sr stb_D p fun x y dx dy d ρ2 F2 H2 s2 r1 r2 e q => ⟨dx, dy, d, ρ2, F2, s2, r1, r2, e, q⟩)
    fun v u s2 x y H2 I2 rx ry ⟨dx, dy, d, ρ2, F2, s2', r1, r2, hg, q⟩ => ?_) h1
  exact ho pins s2 σ H2 x y v u dx dy d Q I2 rx ry (hK ▸ r1.dv s2'.sub) (hK ▸ r2.dv s2'.sub) hg fun w hw => q F2 H2 w Grow.refl s2' (atom_dv hw)
theorem o_op {op : Operator} {g : PyData → PyData → Option OD} {ma mb : M Arg} (ho : OpO X (binaryOp op) g) (ha : PE X a (tA C ma)) (hb : PE X b (tA C mb)) (hK : X.KW = C.K := by rfl) : PE X (.BinOp a op b pos) (tO C (m2 g ma mb)) := by
  refine ⟨fun pins s σ H Q I ⟨F, ρ, sr, p⟩ => ?_⟩
  refine wpAny_BinOp (binT ha hb (R := fun x y H2 => ∃ dx dy d ρ2 F2, SR C.K F2 H2 σ ρ2 ∧ Vw C.K F2 H2 x dx ∧ Vw C.K F2 H2 y dy ∧ g dx dy = some d ∧ PostE C (rO C.K) σ ρ2 F2 H2 Q (.ok d ρ2)) I (two sr stb_O p fun x y dx dy d ρ2 F2 H2 s2 r1 r2 e q => ⟨dx, dy, d, ρ2, F2, s2, r1, r2, e, q⟩)
    fun v u s2 x y H2 I2 rx ry ⟨dx, dy, d, ρ2, F2, s2', r1, r2, hg, q⟩ => ?_)
  exact ho pins s2 σ F2 H2 x y v u dx dy d Q I2 rx ry s2'.sub (hK ▸ r1) (hK ▸ r2) hg fun F' H' w h => Alloc.post s2' (hK ▸ h) q
end
end Eg
namespace Eg
open PySem L2 PySem.W PySem.SeqAt
mutual
theorem DV.plain {K : Kw} {H : Hp} : ∀ {v : V} {d : PyData}, DV K H v d → d.plain = true
  | _, _, .non => rfl
  | _, _, .bl b => rfl
  | _, _, .int i => rfl
  | _, _, .str x => rfl
  | _, _, .lst h1 h2 => by simp only [PyData.plain]; exact DVs.plain h2
  | _, _, .tup h1 h2 => by simp only [PyData.plain]; exact DVs.plain h2
theorem DVs.plain {K : Kw} {H : Hp} : ∀ {vs : List V} {ds : List PyData}, DVs K H vs ds → PyData.plainAll ds = true
  | _, _, .nil => rfl
  | _, _, .cons h1 h2 => by simp only [PyData.plainAll, DV.plain h1, DVs.plain h2, Bool.and_self]
end
mutual
theorem DV.noDict {K : Kw} {H : Hp} : ∀ {v : V} {d : PyData}, DV K H v d → d.hasDict = false
  | _, _, .non => rfl
  | _, _, .bl b => rfl
  | _, _, .int i => rfl
  | _, _, .str x => rfl
  | _, _, .lst h1 h2 => by simp only [PyData.hasDict]; exact DVs.noDict h2
  | _, _, .tup h1 h2 => by simp only [PyData.hasDict]; exact DVs.noDict h2
theorem DVs.noDict {K : Kw} {H : Hp} : ∀ {vs : List V} {ds : List PyData}, DVs K H vs ds → PyData.hasDictAll ds = false
  | _, _, .nil => rfl
  | _, _, .cons h1 h2 => by simp only [PyData.hasDictAll, DV.noDict h1, DVs.noDict h2, Bool.or_self]
end
def small (d : PyData) : Bool := decide (d.depth ≤ 60)
def isNon : PyData → Bool
  | .none => true
  | _ => false
def gSub : PyData → PyData → Option PyData
  | .int i, .int j => some (.int (i - j))
  | _, _ => none
def gMod : PyData → PyData → Option PyData
  | .int i, .int j => if 0 < j then some (.int (i % j)) else none
  | _, _ => none
def gPow : PyData → PyData → Option PyData
  | .int i, .int j => if 0 ≤ j ∧ j ≤ 1000000 ∧ i.natAbs < 2 ^ 64 then some (.int (i ^ j.toNat)) else none
  | _, _ => none
def gEq (x y : PyData) : Option PyData := if small x = true then some (.bool (PyData.eqv x y)) else none
def gNe (x y : PyData) : Option PyData := if small x = true then some (.bool (!PyData.eqv x y)) else none
def cmpOk (x y : PyData) : Bool := alike x y && !isNon x && small x
def gLt (x y : PyData) : Option PyData := if cmpOk x y = true then some (.bool (dataLt x y)) else none
def gGt (x y : PyData) : Option PyData := if cmpOk x y = true then some (.bool (dataLt y x)) else none
def gLe (x y : PyData) : Option PyData := if cmpOk x y = true then some (.bool (!dataLt y x)) else none
def gGe (x y : PyData) : Option PyData := if cmpOk x y = true then some (.bool (!dataLt x y)) else none
def gIn : PyData → PyData → Option PyData
  | x, .list ys => if small x = true then some (.bool (ys.any fun y => PyData.eqv y x)) else none
  | x, .tuple ys => if small x = true then some (.bool (ys.any fun y => PyData.eqv y x)) else none
  | _, _ => none
def gNotIn : PyData → PyData → Option PyData
  | x, .list ys => if small x = true then some (.bool (!ys.any fun y => PyData.eqv y x)) else none
  | x, .tuple ys => if small x = true then some (.bool (!ys.any fun y => PyData.eqv y x)) else none
  | _, _ => none
section
variable {X : Cx}
theorem room_small {A : Around} {x y : PyData} (h : small x = true) (hu : A.units + 64 < cLine) : A.units + min x.depth y.depth < cLine := by
  have h1 : x.depth ≤ 60 := of_decide_eq_true h
  have := Nat.min_le_left x.depth y.depth
  omega
theorem room_smallR {A : Around} {x : PyData} {n : Nat} (h : small x = true) (hu : A.units + 64 < cLine) : A.units + 1 + min n x.depth < cLine := by
  have h1 : x.depth ≤ 60 := of_decide_eq_true h
  have := Nat.min_le_right n x.depth
  omega
theorem opd_int {f : Value → Value → Sem Value} {G : Int → Int → Prop} {r : Int → Int → V} {g : PyData → PyData → Option PyData} (ho : OpR X f (rI G r))
    (hg : ∀ x y d, g x y = some d → ∃ i j, x = .int i ∧ y = .int j ∧ G i j ∧ atom d = some (r i j)) : OpD X f g := by
  intro pins s σ H x y v u dx dy d Q I rx ry h1 h2 e q
  obtain ⟨i, j, rfl, rfl, hG, hd⟩ := hg dx dy d e
  cases h1
  cases h2
  exact ho pins s σ H _ _ v u Q I rx ry ⟨i, j, rfl, rfl, hG, q _ hd⟩
theorem od_sub : OpD X (binaryOp .Sub) gSub := by
  intro pins s σ H x y v u dx dy d Q I rx ry h1 h2 e q
  cases dx <;> cases dy <;> simp [gSub] at e
  subst e
  cases h1; cases h2
  exact op_sub pins s σ H _ _ v u Q I rx ry ⟨_, _, rfl, rfl, q _ rfl⟩
theorem od_mod : OpD X (binaryOp .Mod) gMod := opd_int op_mod fun x y d e => by
  cases x <;> cases y <;> simp only [gMod] at e <;> first | cases e | skip
  split at e <;> cases e
  rename_i h
  exact ⟨_, _, rfl, rfl, h, rfl⟩
theorem od_pow : OpD X (binaryOp .Pow) gPow := opd_int op_pow fun x y d e => by
  cases x <;> cases y <;> simp only [gPow] at e <;> first | cases e | skip
  split at e <;> cases e
  rename_i h
  exact ⟨_, _, rfl, rfl, h, rfl⟩
section
variable {pins : List (Addr × Obj)} {σ : St} {H : Hp} {s : Shared}
theorem DV.reads (I : Inv X pins σ H s) {d : PyData} {v : V} {u : Value} (h : DV X.KW H v d) (r : RelV v u) : ∃ as, Reads s.heap u d as := L2.Dp.reads I d v u (DV.dp h) r
end
theorem od_eq (hu : X.A.units + 64 < cLine) : OpD X (compareOp .Eq) gEq := by
  intro pins s σ H x y v u dx dy d Q I rx ry h1 h2 e q
  unfold gEq at e
  split at e <;> cases e
  rename_i h
  obtain ⟨as, r1⟩ := h1.reads I rx
  obtain ⟨bs, r2⟩ := h2.reads I ry
  exact eq_plain r1 r2 h1.plain h2.plain (room_small h hu) ⟨.bl _, H, I, rfl, q _ rfl⟩
theorem od_ne (hu : X.A.units + 64 < cLine) : OpD X (compareOp .NotEq) gNe := by
  intro pins s σ H x y v u dx dy d Q I rx ry h1 h2 e q
  unfold gNe at e
  split at e <;> cases e
  rename_i h
  obtain ⟨as, r1⟩ := h1.reads I rx
  obtain ⟨bs, r2⟩ := h2.reads I ry
  exact ne_plain r1 r2 h1.plain h2.plain (room_small h hu) ⟨.bl _, H, I, rfl, q _ rfl⟩
theorem cmpOk_at {x y : PyData} (h : cmpOk x y = true) : alike x y = true ∧ x ≠ .none ∧ small x = true := by
  unfold cmpOk at h
  simp only [Bool.and_eq_true] at h
  refine ⟨h.1.1, fun z => ?_, h.2⟩
  subst z
  simp [isNon] at h
theorem od_gt (hu : X.A.units + 64 < cLine) : OpD X (compareOp .Gt) gGt := by
  intro pins s σ H x y v u dx dy d Q I rx ry h1 h2 e q
  unfold gGt at e
  split at e <;> cases e
  rename_i h
  obtain ⟨c1, c2, c3⟩ := cmpOk_at h
  obtain ⟨as, r1⟩ := h1.reads I rx
  obtain ⟨bs, r2⟩ := h2.reads I ry
  exact gt_data r1 r2 c1 c2 (room_small c3 hu) ⟨.bl _, H, I, rfl, q _ rfl⟩
theorem od_le (hu : X.A.units + 64 < cLine) : OpD X (compareOp .LtE) gLe := by
  intro pins s σ H x y v u dx dy d Q I rx ry h1 h2 e q
  unfold gLe at e
  split at e <;> cases e
  rename_i h
  obtain ⟨c1, c2, c3⟩ := cmpOk_at h
  obtain ⟨as, r1⟩ := h1.reads I rx
  obtain ⟨bs, r2⟩ := h2.reads I ry
  exact le_data r1 r2 c1 c2 (room_small c3 hu) ⟨.bl _, H, I, rfl, q _ rfl⟩
theorem od_ge (hu : X.A.units + 64 < cLine) : OpD X (compareOp .GtE) gGe := by
  intro pins s σ H x y v u dx dy d Q I rx ry h1 h2 e q
  unfold gGe at e
  split at e <;> cases e
  rename_i h
  obtain ⟨c1, c2, c3⟩ := cmpOk_at h
  obtain ⟨as, r1⟩ := h1.reads I rx
  obtain ⟨bs, r2⟩ := h2.reads I ry
  exact ge_data r1 r2 c1 c2 (room_small c3 hu) ⟨.bl _, H, I, rfl, q _ rfl⟩
theorem od_in (hu : X.A.units + 64 < cLine) : OpD X (compareOp .In) gIn := by
  intro pins s σ H x y v u dx dy d Q I rx ry h1 h2 e q
  cases dy with
  | list ys =>
    simp only [gIn] at e
    split at e <;> cases e
    rename_i h
    obtain ⟨as, r1⟩ := h1.reads I rx
    obtain ⟨bs, r2⟩ := h2.reads I ry
    have pl := h2.plain
    simp only [PyData.plain] at pl
    exact in_list_data r2 r1 pl h1.plain (room_smallR h hu) ⟨.bl _, H, I, rfl, q _ rfl⟩
  | tuple ys =>
    simp only [gIn] at e
    split at e <;> cases e
    rename_i h
    obtain ⟨as, r1⟩ := h1.reads I rx
    obtain ⟨bs, r2⟩ := h2.reads I ry
    have pl := h2.plain
    simp only [PyData.plain] at pl
    exact in_tuple_data r2 r1 pl h1.plain (room_smallR h hu) ⟨.bl _, H, I, rfl, q _ rfl⟩
  | _ => cases e
theorem od_notIn (hu : X.A.units + 64 < cLine) : OpD X (compareOp .NotIn) gNotIn := by
  intro pins s σ H x y v u dx dy d Q I rx ry h1 h2 e q
  cases dy with
  | list ys =>
    simp only [gNotIn] at e
    split at e <;> cases e
    rename_i h
    obtain ⟨as, r1⟩ := h1.reads I rx
    obtain ⟨bs, r2⟩ := h2.reads I ry
    have pl := h2.plain
    simp only [PyData.plain] at pl
    exact notIn_list_data r2 r1 pl h1.plain (room_smallR h hu) ⟨.bl _, H, I, rfl, q _ rfl⟩
  | tuple ys =>
    simp only [gNotIn] at e
    split at e <;> cases e
    rename_i h
    obtain ⟨as, r1⟩ := h1.reads I rx
    obtain ⟨bs, r2⟩ := h2.reads I ry
    have pl := h2.plain
    simp only [PyData.plain] at pl
    exact notIn_tuple_data r2 r1 pl h1.plain (room_smallR h hu) ⟨.bl _, H, I, rfl, q _ rfl⟩
  | _ => cases e
end
end Eg
namespace Eg
open PySem L2 PySem.W PySem.SeqAt
section
variable [Tbs] {X : Cx} {C : Ct} {e a b : Expr} {es : List Expr} {pos : Pos}
def aAdd : PyData → PyData → Option OD
  | .int i, .int j => some (.sh (.int (i + j)))
  | .str x, .str y => if x.length + y.length ≤ sizeLine then some (.sh (.str (x ++ y))) else none
  | .list xs, .list ys => if xs.length + ys.length ≤ sizeLine then some (.ol (xs ++ ys)) else none
  | .tuple xs, .tuple ys => if xs.length + ys.length ≤ sizeLine then some (.sh (.tuple (xs ++ ys))) else none
  | _, _ => none
theorem DVs.nil_iff {K : Kw} {H : Hp} {vs : List V} {ds : List PyData} (h : DVs K H vs ds) : vs = [] ↔ ds = [] := by
  cases h <;> simp
theorem ao_add : OpO X (binaryOp .Add) aAdd := by
  intro pins s σ F H x y v u dx dy o Q I rx ry sub h1 h2 e q
  cases dx with
  | int i =>
    cases dy <;> simp only [aAdd] at e <;> cases e
    cases h1; cases h2
    exact op_add pins s σ H _ _ v u Q I rx ry ⟨_, _, rfl, rfl, q _ _ _ (.asis (.int _))⟩
  | str i =>
    cases dy <;> simp only [aAdd] at e <;> first | cases e | skip
    split at e <;> cases e
    rename_i hz
    cases h1; cases h2
    exact op_add_str pins s σ H _ _ v u Q I rx ry ⟨_, _, rfl, rfl, hz, q _ _ _ (.asis (.str _))⟩
  | list xs =>
    cases dy <;> simp only [aAdd] at e <;> first | cases e | skip
    split at e <;> cases e
    rename_i hz
    obtain ⟨a1, vs, rfl, g1, k1⟩ := h1
    obtain ⟨a2, ws, rfl, g2, k2⟩ := h2
    exact op_cat pins s σ H _ _ v u Q I rx ry ⟨_, _, _, _, rfl, rfl, g1, g2, by rw [k1.len, k2.len]; exact hz, fun p hp => q _ _ _ (.lst hp (k1.append k2))⟩
  | tuple xs =>
    cases dy <;> simp only [aAdd] at e <;> first | cases e | skip
    split at e <;> cases e
    rename_i ys hz
    have h1' : DV X.KW F x (.tuple xs) := h1
    have h2' : DV X.KW F y (.tuple ys) := h2
    cases h1' with
    | tup g1 k1 =>
      cases h2' with
      | tup g2 k2 =>
        refine op_catA pins s σ H _ _ v u Q I rx ry ⟨_, _, _, _, rfl, rfl, sub.sqT g1, sub.sqT g2, by rw [k1.len, k2.len]; exact hz, fun z => ?_, fun z1 z2 => ?_, fun z1 z2 p hp => ?_⟩
        · have := k1.nil_iff.mp z
          subst this
          exact q _ _ _ (.asis (.tup g2 k2))
        · have := k2.nil_iff.mp z2
          subst this
          rw [List.append_nil] at q
          exact q _ _ _ (.asis (.tup g1 k1))
        · exact q _ _ _ (.tup hp (k1.append k2))
  | _ => cases dy <;> simp only [aAdd] at e <;> cases e
def aMul : PyData → PyData → Option OD
  | .int i, .int j => if (-(2 ^ 64) < i ∧ i < 2 ^ 64) ∨ (-(2 ^ 64) < j ∧ j < 2 ^ 64) then some (.sh (.int (i * j))) else none
  | .list xs, .int k => if -(2 ^ 63) ≤ k ∧ k < 2 ^ 63 ∧ xs.length * k.toNat ≤ sizeLine then some (.ol (List.replicate k.toNat xs).flatten) else none
  | _, _ => none
theorem DVs.rep {K : Kw} {H : Hp} {vs : List V} {ds : List PyData} (h : DVs K H vs ds) : ∀ n : Nat, DVs K H (List.replicate n vs).flatten (List.replicate n ds).flatten
  | 0 => .nil
  | n + 1 => by rw [List.replicate_succ, List.replicate_succ, List.flatten_cons, List.flatten_cons]; exact h.append (DVs.rep h n)
theorem ao_mul : OpO X (binaryOp .Mult) aMul := by
  intro pins s σ F H x y v u dx dy o Q I rx ry sub h1 h2 e q
  cases dx with
  | int i =>
    cases dy <;> simp only [aMul] at e <;> first | cases e | skip
    split at e <;> cases e
    rename_i hz
    cases h1; cases h2
    exact op_mul pins s σ H _ _ v u Q I rx ry ⟨_, _, rfl, rfl, hz, q _ _ _ (.asis (.int _))⟩
  | list xs =>
    cases dy <;> simp only [aMul] at e <;> first | cases e | skip
    split at e <;> cases e
    rename_i hz
    obtain ⟨a1, vs, rfl, g1, k1⟩ := h1
    cases h2
    exact op_rep pins s σ H _ _ v u Q I rx ry ⟨_, _, _, rfl, rfl, g1, hz.1, hz.2.1, by rw [k1.len]; exact hz.2.2, fun p hp => q _ _ _ (.lst hp (k1.rep _))⟩
  | _ => cases dy <;> simp only [aMul] at e <;> cases e
inductive rAs (K : Kw) (F : Hp) (σ : St) : List V → List Arg → Prop
  | nil : rAs K F σ [] []
  | dat {v : V} {d : PyData} {vs : List V} {as : List Arg} : DV K F v d → rAs K F σ vs as → rAs K F σ (v :: vs) (.dat d :: as)
  | slot {v : V} {i : Nat} {vs : List V} {as : List Arg} : σ[i]? = some (some v) → rAs K F σ vs as → rAs K F σ (v :: vs) (.slot i :: as)
  | fr {v : V} {kvs : List (PyData × PyData)} {vs : List V} {as : List Arg} : (∃ a L, v = .ref a ∧ FrzN F K.w a L ∧ KN K F L kvs) → rAs K F σ vs as → rAs K F σ (v :: vs) (.fr kvs :: as)
theorem rAs.mono {K : Kw} {F F' : Hp} {σ : St} (e : Same F F') : ∀ {vs : List V} {as : List Arg}, rAs K F σ vs as → rAs K F' σ vs as
  | _, _, .nil => .nil
  | _, _, .dat h t => .dat (DV.mono e h) (rAs.mono e t)
  | _, _, .slot h t => .slot h (rAs.mono e t)
  | _, _, .fr ⟨a, L, h1, h2, h3⟩ t => .fr ⟨a, L, h1, h2.mono e, KN.mono e h3⟩ (rAs.mono e t)
theorem rAs.len {K : Kw} {F : Hp} {σ : St} : ∀ {vs : List V} {as : List Arg}, rAs K F σ vs as → vs.length = as.length
  | _, _, .nil => rfl
  | _, _, .dat h t => by rw [List.length_cons, List.length_cons, rAs.len t]
  | _, _, .slot h t => by rw [List.length_cons, List.length_cons, rAs.len t]
  | _, _, .fr h t => by rw [List.length_cons, List.length_cons, rAs.len t]
def rL (K : Kw) : Hp → Hp → St → Rho → Rho → Hp → List V → List Arg → Prop := fun F' _ σ _ _ _ vs as => rAs K F' σ vs as
def tL (C : Ct) (m : M (List Arg)) : TA := fun σ H Q => ∃ F ρ, SR C.K F H σ ρ ∧ PostE C (rL C.K) σ ρ F H Q (m ρ)
theorem stb_L {K : Kw} : Stb (rL K) := fun _ _ _ _ _ _ _ _ _ _ _ _ _ r => r
def mNil : M (List Arg) := M.ret []
def mCons (ma : M Arg) (ms : M (List Arg)) : M (List Arg) := ma.bind fun a => ms.bind fun as => M.ret (a :: as)
theorem l_nil : PA X [] (tL C mNil) := ⟨fun pos pins s σ H Q I ⟨F, ρ, sr, p⟩ => pa_nil.run pos pins s σ H Q I (p F H [] Grow.refl sr .nil)⟩
theorem l_cons {ma : M Arg} {ms : M (List Arg)} (ha : PE X e (tA C ma)) (hr : PA X es (tL C ms)) (hs : starEach (e :: es) X.env = (false, eval e X.env) :: starEach es X.env := by rfl) : PA X (e :: es) (tL C (mCons ma ms)) := by
  refine ⟨fun pos pins s σ H Q I ⟨F, ρ, sr, p⟩ => (pa_cons ha hr hs).run pos pins s σ H Q I ?_⟩
  refine one sr stb_L p fun x a ρ1 F1 H1 s1 g1 r1 q1 => ?_
  refine ⟨F1, ρ1, s1, q1.part fun as ρ2 F2 H2 xs e2 q2 g2 s2 r2 => ?_⟩
  refine q2 F2 H2 (x :: xs) g2 s2 ?_
  cases a with
  | dat d => exact .dat (DV.mono g2.ext r1) r2
  | slot i => exact .slot r1 r2
  | fr kvs =>
    obtain ⟨b, L, h1, h2, h3⟩ := r1
    exact .fr ⟨b, L, h1, h2.mono g2.ext, KN.mono g2.ext h3⟩ r2
def resL (ρ : Rho) : List Arg → Option (List PyData)
  | [] => some []
  | a :: as => do (← res1 ρ a) :: (← resL ρ as)
inductive Vws (K : Kw) (F H : Hp) : List V → List PyData → Prop
  | nil : Vws K F H [] []
  | cons {v : V} {d : PyData} {vs : List V} {ds : List PyData} : Vw K F H v d → Vws K F H vs ds → Vws K F H (v :: vs) (d :: ds)
theorem rAs.views {K : Kw} {F H : Hp} {σ : St} {ρ : Rho} (s : SR K F H σ ρ) : ∀ {vs : List V} {as : List Arg} {ds : List PyData}, rAs K F σ vs as → resL ρ as = some ds → Vws K F H vs ds
  | _, [], _, .nil, r => by cases r; exact .nil
  | _, _ :: as, _, .dat h t, r => by
    simp only [resL, res1] at r
    cases e : resL ρ as with
    | none => rw [e] at r; cases r
    | some ds =>
      rw [e] at r; cases r
      exact .cons (Vw.of h s.sub) (rAs.views s t e)
  | _, .slot i :: as, _, .slot h t, r => by
    simp only [resL] at r
    cases e0 : res1 ρ (.slot i) with
    | none => rw [e0] at r; cases r
    | some d =>
      cases e : resL ρ as with
      | none => rw [e0, e] at r; cases r
      | some ds =>
        rw [e0, e] at r; cases r
        exact .cons (rA.view (ρ0 := ρ) (H0 := H) s (a := .slot i) h e0) (rAs.views s t e)
  | _, .fr _ :: as, _, .fr _ _, r => by
    simp only [resL, res1] at r
    cases r
def mL {γ : Type} (g : List PyData → Option γ) (ms : M (List Arg)) : M γ := ms.bind fun as => M.get.bind fun ρ => M.lift (do g (← resL ρ as))
theorem many {γ : Type} {ms : M (List Arg)} {g : List PyData → Option γ} {RR : Hp → Hp → St → Rho → Rho → Hp → V → γ → Prop} {σ : St} {ρ : Rho} {F H : Hp} {Q : VK} {R : List V → Hp → Prop}
    (sr : SR C.K F H σ ρ) (st : Stb RR) (p : PostE C RR σ ρ F H Q (mL g ms ρ))
    (k : ∀ xs ds d ρ2 F2 H2, SR C.K F2 H2 σ ρ2 → Vws C.K F2 H2 xs ds → g ds = some d → PostE C RR σ ρ2 F2 H2 Q (.ok d ρ2) → R xs H2) : tL C ms σ H R :=
  ⟨F, ρ, sr, p.part fun as ρ1 F1 H1 xs e1 q1 g1 s1 r1 => by
    have q1 := q1.on st g1
    obtain ⟨d, e, q⟩ := lift_some q1
    cases e2 : resL ρ1 as with
    | none => rw [e2] at e; cases e
    | some ds =>
      rw [e2] at e
      exact k xs ds d ρ1 F1 H1 s1 (rAs.views s1 r1 e2) e q⟩
def CallO (X : Cx) (f : Value) (g : List PyData → Option OD) : Prop :=
  ∀ (pins : List (Addr × Obj)) (s : Shared) (σ : St) (F H : Hp) (xs : List V) (us : List Value) (ds : List PyData) (o : OD) (Q : VK), Inv X pins σ H s → Vals xs us → Same F H → Vws X.KW F H xs ds → g ds = some o →
    (∀ F' H' w, Alloc X.KW F H F' H' w o → Q w H') → wpAny (model X.prog X.w) X.A (call f us) (EP X pins σ Q) X.xe s
theorem callO_of {f : Value} {r : List V → Hp → VK → Prop} {g : List PyData → Option OD} (hc : CallR X f r)
    (h : ∀ F H xs ds o Q, Same F H → Vws X.KW F H xs ds → g ds = some o → (∀ F' H' w, Alloc X.KW F H F' H' w o → Q w H') → r xs H Q) : CallO X f g :=
  fun pins s σ F H xs us ds o Q I r sub vw e q => hc pins s σ H xs us Q I r (h F H xs ds o Q sub vw e q)
theorem o_call {id : String} {x : Str} {p : Pos} {g : List PyData → Option OD} {ms : M (List Arg)} (hc : CallO X (.builtin id) g) (hg : Gl X x) (hm : X.mg x = none) (hv : bootBuiltins x = some (.builtin id)) (ha : PA X (e :: es) (tL C ms)) (hn : x ≠ "__name__" := by decide) (hdb : (x == ("__debug__" : Str)) = false := by decide)
    (he : starEach (e :: es) X.env = (false, eval e X.env) :: starEach es X.env := by rfl) (hpl : (backTo pos (starEach es X.env)).any (·.1) = false := by rfl) (hK : X.KW = C.K := by rfl) : PE X (.Call (.Name x p) (e :: es) [] pos) (tO C (mL g ms)) := by
  refine ⟨fun pins s σ H Q I ⟨F, ρ, sr, pp⟩ => ?_⟩
  refine wpAny_Call_Name_kw (ld_blt I hg hm hv ?_ hn hdb)
  refine PyProof.Rows.callWith_builtin1 (thn (ha.run pos pins s σ H (fun xs H2 => ∃ ds d ρ2 F2, SR C.K F2 H2 σ ρ2 ∧ Vws C.K F2 H2 xs ds ∧ g ds = some d ∧ PostE C (rO C.K) σ ρ2 F2 H2 Q (.ok d ρ2)) I (many sr stb_O pp fun xs ds d ρ2 F2 H2 s2 vw e q => ⟨ds, d, ρ2, F2, s2, vw, e, q⟩))
    fun us s1 ⟨vs, H1, I1, r1, ds, d, ρ2, F2, s2, vw, e, q⟩ => ?_) he hpl
  exact hc pins s1 σ F2 H1 vs us ds d Q I1 r1 s2.sub (hK ▸ vw) e fun F' H' w h => Alloc.post s2 (hK ▸ h) q
theorem o_callTy {T : String} {x : Str} {p : Pos} {g : List PyData → Option OD} {ms : M (List Arg)} (hc : CallO X (.type T) g) (hg : Gl X x) (hm : X.mg x = none) (hv : bootBuiltins x = some (.type T)) (ha : PA X (e :: es) (tL C ms)) (hn : x ≠ "__name__" := by decide) (hdb : (x == ("__debug__" : Str)) = false := by decide)
    (he : starEach (e :: es) X.env = (false, eval e X.env) :: starEach es X.env := by rfl) (hpl : (backTo pos (starEach es X.env)).any (·.1) = false := by rfl) (hK : X.KW = C.K := by rfl) : PE X (.Call (.Name x p) (e :: es) [] pos) (tO C (mL g ms)) := by
  refine ⟨fun pins s σ H Q I ⟨F, ρ, sr, pp⟩ => ?_⟩
  refine wpAny_Call_Name_kw (ld_blt I hg hm hv ?_ hn hdb)
  refine PyProof.Rows.callWith_type1 (thn (ha.run pos pins s σ H (fun xs H2 => ∃ ds d ρ2 F2, SR C.K F2 H2 σ ρ2 ∧ Vws C.K F2 H2 xs ds ∧ g ds = some d ∧ PostE C (rO C.K) σ ρ2 F2 H2 Q (.ok d ρ2)) I (many sr stb_O pp fun xs ds d ρ2 F2 H2 s2 vw e q => ⟨ds, d, ρ2, F2, s2, vw, e, q⟩))
    fun us s1 ⟨vs, H1, I1, r1, ds, d, ρ2, F2, s2, vw, e, q⟩ => ?_) he hpl
  exact hc pins s1 σ F2 H1 vs us ds d Q I1 r1 s2.sub (hK ▸ vw) e fun F' H' w h => Alloc.post s2 (hK ▸ h) q
def fixL : List Arg → Option (List PyData)
  | [] => some []
  | .dat d :: as => (fixL as).map (d :: ·)
  | .slot _ :: _ => none
  | .fr _ :: _ => none
theorem rAs.fixed {K : Kw} {F : Hp} {σ : St} : ∀ {vs : List V} {as : List Arg} {ds : List PyData}, rAs K F σ vs as → fixL as = some ds → DVs K F vs ds
  | _, [], _, .nil, r => by cases r; exact .nil
  | _, _ :: as, _, .dat h t, r => by
    simp only [fixL] at r
    cases e : fixL as with
    | none => rw [e] at r; cases r
    | some ds => rw [e] at r; cases r; exact .cons h (rAs.fixed t e)
  | _, _, _, .slot _ _, r => by cases r
  | _, _, _, .fr _ _, r => by cases r
def mFix {γ : Type} (g : List PyData → Option γ) (ms : M (List Arg)) : M γ := ms.bind fun as => M.lift (do g (← fixL as))
def tupG (ds : List PyData) : Option PyData := if ds.length ≤ sizeLine then some (.tuple ds) else none
def lstG (ds : List PyData) : Option OD := if ds.length ≤ sizeLine then some (.ol ds) else none
theorem d_tup {x1} {ms : M (List Arg)} (h : PA X es (tL C ms)) : PE X (.Tuple es x1 pos) (tD C (mFix tupG ms)) := by
  refine (pe_tup h).imp fun σ H Q ⟨F, ρ, sr, p⟩ => ?_
  refine ⟨F, ρ, sr, p.part fun as ρ1 F1 H1 xs e1 q1 g1 s1 r1 => ?_⟩
  obtain ⟨d, e, q⟩ := lift_some q1
  cases e2 : fixL as with
  | none => rw [e2] at e; cases e
  | some ds =>
    rw [e2] at e
    have r2 := r1.fixed e2
    simp only [tupG, Option.bind_eq_bind, Option.bind_some] at e
    split at e <;> cases e
    rename_i hz
    refine ⟨by rw [r2.len]; exact hz, fun p hp => ?_⟩
    have fp := s1.sub.free hp
    exact q _ _ _ (g1.trans (Grow.laid hp fp)) (s1.laid hp) (.tup (.inl (.inl upd_same)) (r2.upd fp))
theorem o_lst {ms : M (List Arg)} (h : PA X es (tL C ms)) : PE X (.List es pos) (tO C (mFix lstG ms)) := by
  refine (pe_lst h).imp fun σ H Q ⟨F, ρ, sr, p⟩ => ?_
  refine ⟨F, ρ, sr, p.part fun as ρ1 F1 H1 xs e1 q1 g1 s1 r1 => ?_⟩
  have q1 := q1.on stb_O g1
  obtain ⟨d, e, q⟩ := lift_some q1
  cases e2 : fixL as with
  | none => rw [e2] at e; cases e
  | some ds =>
    rw [e2] at e
    have r2 := r1.fixed e2
    simp only [lstG, Option.bind_eq_bind, Option.bind_some] at e
    split at e <;> cases e
    rename_i hz
    exact ⟨by rw [r2.len]; exact hz, fun p hp => Alloc.post s1 (.lst hp r2) q⟩
def gIx : PyData → PyData → Option PyData
  | .list ds, .int i => atI ds i
  | .tuple ds, .int i => atI ds i
  | .str z, .int i => if z.length ≤ sizeLine then (atI z.cps.toList i).map fun c => .str ⟨#[c]⟩ else none
  | _, _ => none
theorem DVs.atI {K : Kw} {H : Hp} {vs : List V} {ds : List PyData} {i : Int} {d : PyData} (h : DVs K H vs ds) (e : L2.atI ds i = some d) : ∃ v, L2.atI vs i = some v ∧ DV K H v d := by
  unfold L2.atI at e ⊢
  rw [h.len]
  cases q : ixN ds.length i with
  | none => rw [q] at e; cases e
  | some j => rw [q] at e; exact h.get e
theorem d_ix {ma mb : M Arg} (ha : PE X a (tA C ma)) (hb : PE X b (tA C mb)) (hs : PlainIx b) (hK : X.KW = C.K := by rfl) : PE X (.Subscript a b pos) (tD C (m2 gIx ma mb)) := by
  refine (pe_ix ix_seq ha hb hs).imp fun σ H Q ⟨F, ρ, sr, p⟩ => ?_
  refine two sr stb_D p fun x y dx dy d ρ2 F2 H2 s2 r1 r2 e q => ?_
  rw [show X.K = C.K.fr from congrArg Kw.fr hK]
  cases dx with
  | list ds =>
    cases dy <;> simp only [gIx] at e <;> first | cases e | skip
    obtain ⟨p, vs, rfl, h1, h2⟩ := r1
    cases r2
    obtain ⟨w, e1, h3⟩ := h2.atI e
    exact .inl ⟨_, _, _, w, rfl, rfl, SqL.of h1, e1, q F2 H2 w Grow.refl s2 h3⟩
  | tuple ds =>
    cases dy <;> simp only [gIx] at e <;> first | cases e | skip
    have r1' : DV C.K F2 x (.tuple ds) := r1
    cases r1' with
    | tup h1 h2 =>
      cases r2
      obtain ⟨w, e1, h3⟩ := h2.atI e
      exact .inr (.inl ⟨_, _, _, w, rfl, rfl, s2.sub.sqT h1, e1, q F2 H2 w Grow.refl s2 h3⟩)
  | str z =>
    cases dy <;> simp only [gIx] at e <;> first | cases e | skip
    split at e <;> try cases e
    rename_i i hz
    cases r1; cases r2
    cases e2 : L2.atI z.cps.toList i with
    | none => rw [e2] at e; cases e
    | some c =>
      rw [e2] at e; cases e
      exact .inr (.inr ⟨_, _, c, rfl, rfl, hz, e2, q F2 H2 _ Grow.refl s2 (.str _)⟩)
  | _ => cases dy <;> simp only [gIx] at e <;> cases e
end
end Eg
namespace Eg
open PySem L2 PySem.W PySem.SeqAt
section
variable [Tbs] {X : Cx} {C : Ct} {e a b : Expr} {es : List Expr} {pos p2 : Pos}
def tPt (C : Ct) (m : M (Option Int)) : TO := fun σ H Q => ∃ F ρ, SR C.K F H σ ρ ∧ PostE (β := Option Int) C (fun _ _ _ _ _ _ v d => v = d) σ ρ F H Q (m ρ)
theorem stb_T {β : Type} : Stb (fun (_ _ : Hp) (_ : St) (_ _ : Rho) (_ : Hp) (v d : β) => v = d) := fun _ _ _ _ _ _ _ _ _ _ _ _ _ r => r
def asInt : PyData → M Int
  | .int i => M.ret i
  | _ => M.bad
theorem pt_none : PO X none (tPt C (M.ret none)) := ⟨fun pins s σ H Q I ⟨F, ρ, sr, p⟩ => po_none.run pins s σ H Q I (p F H none Grow.refl sr rfl)⟩
theorem pt_some {m : M PyData} (h : PE X e (tD C m)) : PO X (some e) (tPt C (m.bind fun d => (asInt d).bind fun i => M.ret (some i))) :=
  ⟨fun pins s σ H Q I ⟨F, ρ, sr, p⟩ => (po_some h).run pins s σ H Q I ⟨F, ρ, sr, p.part fun d ρ1 F1 H1 x e1 q1 g1 s1 r1 => by
    have q1 := q1.on stb_T g1
    cases d with
    | int i => cases r1; exact ⟨i, rfl, q1 F1 H1 _ Grow.refl s1 rfl⟩
    | _ => exact q1.elim⟩⟩
def cutD (xs : List PyData) (lo hi : Option Int) : List PyData := (xs.drop (HT.sIx xs.length 0 lo)).take (HT.sIx xs.length xs.length hi - HT.sIx xs.length 0 lo)
theorem DVs.cut {K : Kw} {H : Hp} {vs : List V} {ds : List PyData} (h : DVs K H vs ds) (lo hi : Option Int) : DVs K H (cutV vs lo hi) (cutD ds lo hi) := by
  unfold cutV cutD
  rw [h.len]
  exact (h.drop _).take _
def gSl (d : PyData) (lo hi : Option Int) : Option OD := match d with
  | .list ds => some (.ol (cutD ds lo hi))
  | .tuple ds => some (.sh (.tuple (cutD ds lo hi)))
  | .str z => if z.length ≤ sizeLine then some (.sh (.str (cutS z lo hi))) else none
  | _ => none
def mSl (ma : M Arg) (ml mh : M (Option Int)) : M OD := ma.bind fun a => ml.bind fun l => mh.bind fun h => M.get.bind fun ρ => M.lift (do gSl (← res1 ρ a) l h)
omit [Tbs] in
theorem cutD_whole {ds : List PyData} {lo hi : Option Int} (h : HT.sIx ds.length 0 lo = 0 ∧ HT.sIx ds.length ds.length hi = ds.length) : cutD ds lo hi = ds := by
  unfold cutD
  rw [h.1, h.2, List.drop_zero, Nat.sub_zero, List.take_length]
theorem o_sl {lo hi : Option Expr} {ma : M Arg} {ml mh : M (Option Int)} (ha : PE X a (tA C ma)) (hl : PO X lo (tPt C ml)) (hh : PO X hi (tPt C mh)) (hK : X.KW = C.K := by rfl) :
    PE X (.Subscript a (.Slice lo hi none p2) pos) (tO C (mSl ma ml mh)) := by
  refine (pe_slice (sl_list.or (sl_tupA.or sl_str)) ha hl hh).imp fun σ H Q ⟨F, ρ, sr, p⟩ => ?_
  refine one sr stb_O p fun x a ρ1 F1 H1 s1 g1 r1 q1 => ?_
  refine ⟨F1, ρ1, s1, q1.part fun l ρ2 F2 H2 _ e2 q2 g2 s2 r2 => ?_⟩
  subst r2
  have q2 := q2.on stb_O g2
  refine ⟨F2, ρ2, s2, q2.part fun h ρ3 F3 H3 _ e3 q3 g3 s3 r3 => ?_⟩
  subst r3
  have q3 := q3.on stb_O g3
  obtain ⟨o, eo, q⟩ := lift_some q3
  cases ea : res1 ρ3 a with
  | none => rw [ea] at eo; cases eo
  | some d =>
    rw [ea] at eo
    have vw := rA.view (ρ0 := ρ) (H0 := H) s3 (rA.mono (ρ' := ρ3) (ρ0' := ρ) (H0' := H) (g2.trans g3).ext r1) ea
    rw [show X.K = C.K.fr from congrArg Kw.fr hK]
    cases d with
    | list ds =>
      cases eo
      obtain ⟨p, vs, rfl, h1, h2⟩ := vw
      exact .inl ⟨p, vs, rfl, SqL.of h1, fun p hp => Alloc.post s3 (.lst hp (h2.cut _ _)) q⟩
    | tuple ds =>
      cases eo
      have vw' : DV C.K F3 x (.tuple ds) := vw
      cases vw' with
      | tup h1 h2 =>
        refine .inr (.inl ⟨_, _, rfl, s3.sub.sqT h1, fun z => ?_, fun _ p hp => Alloc.post s3 (.tup hp (h2.cut _ _)) q⟩)
        rw [h2.len] at z
        rw [cutD_whole z] at q
        exact Alloc.post s3 (.asis (.tup h1 h2)) q
    | str z =>
      simp only [gSl, Option.bind_eq_bind, Option.bind_some] at eo
      split at eo <;> cases eo
      rename_i hz
      cases vw
      exact .inr (.inr ⟨z, rfl, hz, Alloc.post s3 (.asis (.str _)) q⟩)
    | _ => cases eo
def mScr (i : Nat) (ml mh : M (Option Int)) : M OD := fun ρ => match ρ[i]? with
  | some (some (.sc ns)) => (ml.bind fun l => mh.bind fun h => M.ret (.ol (cutD (ns.map .int) l h))) ρ
  | _ => .bad
theorem dvs_ints {K : Kw} {H : Hp} : ∀ ns : List Int, DVs K H (ns.map V.int) (ns.map .int)
  | [] => .nil
  | n :: ns => .cons (.int n) (dvs_ints ns)
theorem o_scr {i : Nat} {lo hi : Option Expr} {ml mh : M (Option Int)} (ha : PE X a (tVar i)) (hl : PO X lo (tPt C ml)) (hh : PO X hi (tPt C mh)) (hK : X.KW = C.K := by rfl) :
    PE X (.Subscript a (.Slice lo hi none p2) pos) (tO C (mScr i ml mh)) := by
  refine (pe_slice sl_list ha hl hh).imp fun σ H Q ⟨F, ρ, sr, p⟩ => ?_
  unfold mScr at p
  cases q : ρ[i]? with
  | none => rw [q] at p; exact p.elim
  | some o =>
    rw [q] at p
    cases o with
    | none => exact p.elim
    | some o =>
      cases o with
      | sc ns =>
        obtain ⟨v, hv, a, rfl, hs⟩ := sr.sl i _ q
        refine ⟨_, hv, F, ρ, sr, p.part fun l ρ1 F1 H1 _ e1 q1 g1 s1 r1 => ?_⟩
        subst r1
        have q1 := q1.on stb_O g1
        refine ⟨F1, ρ1, s1, q1.part fun h ρ2 F2 H2 _ e2 q2 g2 s2 r2 => ?_⟩
        subst r2
        have q2 := q2.on stb_O g2
        rw [show X.K = C.K.fr from congrArg Kw.fr hK]
        exact ⟨a, _, rfl, s2.sub.seq ((g1.trans g2).ext.seq hs), fun p hp => Alloc.post s2 (.lst hp ((dvs_ints (K := C.K) (H := F2) ns).cut _ _)) q2⟩
      | _ => exact p.elim
def gLen : List PyData → Option OD
  | [.list ds] => some (.sh (.int ds.length))
  | [.tuple ds] => some (.sh (.int ds.length))
  | [.str z] => if z.length ≤ sizeLine then some (.sh (.int z.length)) else none
  | _ => none
theorem co_len : CallO X (.builtin "len") gLen := callO_of call_len fun F H xs ds o Q sub vw e q => by
  cases vw with
  | nil => cases e
  | cons h t =>
    cases t with
    | cons _ _ => rename_i d _ _ _ _ _ _; cases d <;> cases e
    | nil =>
      rename_i x d
      cases d with
      | list ds =>
        cases e
        obtain ⟨p, vs, rfl, h1, h2⟩ := h
        exact ⟨_, _, rfl, .inl ⟨vs, SqL.of h1, rfl⟩, by rw [h2.len]; exact q _ _ _ (.asis (.int _))⟩
      | tuple ds =>
        cases e
        have h' : DV X.KW F x (.tuple ds) := h
        cases h' with
        | tup h1 h2 => exact ⟨_, _, rfl, .inr ⟨_, sub.sqT h1, rfl⟩, by rw [h2.len]; exact q _ _ _ (.asis (.int _))⟩
      | str z =>
        simp only [gLen] at e
        split at e <;> cases e
        rename_i hz
        cases h
        exact ⟨_, _, rfl, ⟨hz, rfl⟩, q _ _ _ (.asis (.int _))⟩
      | _ => cases e
def gList : List PyData → Option OD
  | [.list ds] => some (.ol ds)
  | [.tuple ds] => some (.ol ds)
  | _ => none
theorem co_list : CallO X (.type "list") gList := callO_of call_list_of fun F H xs ds o Q sub vw e q => by
  cases vw with
  | nil => cases e
  | cons h t =>
    cases t with
    | cons _ _ => rename_i d _ _ _ _ _ _; cases d <;> cases e
    | nil =>
      rename_i x d
      cases d with
      | list ds =>
        cases e
        obtain ⟨p, vs, rfl, h1, h2⟩ := h
        exact ⟨_, _, rfl, .inl (SqL.of h1), fun p hp => q _ _ _ (.lst hp h2)⟩
      | tuple ds =>
        cases e
        have h' : DV X.KW F x (.tuple ds) := h
        cases h' with
        | tup h1 h2 => exact ⟨_, _, rfl, .inr (sub.sqT h1), fun p hp => q _ _ _ (.lst hp h2)⟩
      | _ => cases e
def gTuple : List PyData → Option OD
  | [.list ds] => some (.sh (.tuple ds))
  | [.tuple ds] => some (.sh (.tuple ds))
  | _ => none
theorem co_tuple : CallO X (.type "tuple") gTuple := callO_of call_tuple_of fun F H xs ds o Q sub vw e q => by
  cases vw with
  | nil => cases e
  | cons h t =>
    cases t with
    | cons _ _ => rename_i d _ _ _ _ _ _; cases d <;> cases e
    | nil =>
      rename_i x d
      cases d with
      | list ds =>
        cases e
        obtain ⟨p, vs, rfl, h1, h2⟩ := h
        exact ⟨_, _, rfl, .inl ⟨SqL.of h1, fun p hp => q _ _ _ (.tup hp h2)⟩⟩
      | tuple ds =>
        cases e
        have h' : DV X.KW F x (.tuple ds) := h
        cases h' with
        | tup h1 h2 => exact ⟨_, _, rfl, .inr ⟨sub.sqT h1, q _ _ _ (.asis (.tup h1 h2))⟩⟩
      | _ => cases e
def gInt : List PyData → Option OD
  | [.int i] => some (.sh (.int i))
  | [.bool b] => some (.sh (.int (if b then 1 else 0)))
  | _ => none
theorem co_int : CallO X (.type "int") gInt := callO_of call_int1 fun F H xs ds o Q sub vw e q => by
  cases vw with
  | nil => cases e
  | cons h t =>
    cases t with
    | cons _ _ => rename_i d _ _ _ _ _ _; cases d <;> cases e
    | nil =>
      rename_i x d
      cases d with
      | int i => cases e; cases h; exact .inl ⟨i, rfl, q _ _ _ (.asis (.int _))⟩
      | bool i => cases e; cases h; exact .inr ⟨i, rfl, q _ _ _ (.asis (.int _))⟩
      | _ => cases e
def gRepr : List PyData → Option OD
  | [d] => if d.showable = true ∧ d.shown.length ≤ sizeLine ∧ small d = true then some (.sh (.str d.shown)) else none
  | _ => none
theorem co_repr (hg : X.A.guards = some []) (hu : X.A.units + 64 < cLine) : CallO X (.builtin "repr") gRepr := by
  intro pins s σ F H xs us ds o Q I r sub vw e q
  cases vw with
  | nil => cases e
  | cons h t =>
    cases t with
    | cons _ _ => cases e
    | nil =>
      rename_i x d
      simp only [gRepr] at e
      split at e <;> cases e
      rename_i hz
      obtain ⟨z1, z2, z3⟩ := hz
      obtain ⟨u, rfl, ru⟩ := vals1 r
      have dv := h.dv sub
      obtain ⟨as, rd⟩ := dv.reads I ru
      have hd : d.depth ≤ 60 := of_decide_eq_true z3
      have fin : ∀ s' : Shared, Inv X pins σ H s' → ∀ t, EP X pins σ Q (.str d.shown t) s' := fun s' I' t => ⟨.str d.shown, H, I', ⟨t, rfl⟩, q _ _ _ (.asis (.str _))⟩
      cases d with
      | none => cases dv; cases ru; simp only [PyData.shown] at fin; exact P.repr_of_none (fin _ (I.tok _) _)
      | bool b => cases dv; cases ru; simp only [PyData.shown] at fin; exact P.repr_of_bool (fin _ (I.tok _) _)
      | int i => cases dv; obtain ⟨t, rfl⟩ := ru; simp only [PyData.shown] at fin; exact P.repr_of_int (by simpa [PyData.showable] using z1) (fin _ (I.tok _) _)
      | str i => cases dv; obtain ⟨t, rfl⟩ := ru; simp only [PyData.shown] at fin z2; exact P.repr_of_str (fin _ (I.tok _) _) z2
      | list ds =>
        cases dv with
        | lst h1 h2 => cases ru; exact repr_of_reads' rd z1 (fun z => by have := (DV.lst h1 h2).noDict; rw [this] at z; cases z) hg (by omega) (fun _ _ z => z) (fun h' u tk k => fin _ (I.kept k) u) z2
      | tuple ds =>
        cases dv with
        | tup h1 h2 => cases ru; exact repr_of_reads' rd z1 (fun z => by have := (DV.tup h1 h2).noDict; rw [this] at z; cases z) hg (by omega) (fun _ _ z => z) (fun h' u tk k => fin _ (I.kept k) u) z2
      | dict _ => cases dv
end
end Eg
namespace Eg
open PySem L2 PySem.W PySem.SeqAt PySem.Spec PyProof.Rows
section
variable {A : Around} {s : Shared} {prog : Program} {w : World} {E : Value → Shared → Prop}
theorem coll_tup {t : Addr} {vs : List Value} {Q : List Value → Shared → Prop} (ht : IsTup s.heap t vs.toArray) (hz : vs.length ≤ sizeLine)
    (h : Q vs { s with heap := (s.heap.push (seqObj "list" #[] 0)).update s.heap.objs.size (Obj.mapSeq (· ++ vs.toArray)) }) : wpAny (model prog w) A (collect (.ref t)) Q E s := by
  obtain ⟨ob, hob, hcl, nn, hdt⟩ := id ht
  unfold collect
  refine wpAny_bind (wpAny_runValue (codeAny_builtin PyProof.Rows.entry_proto_collect' ?_))
  show wpAny _ _ (do again (.builtin "list.__iadd__" ⟨[← newList [], .ref t], []⟩)) _ _ s
  refine wpAny_bind (wpAny_newList (wpAny_pure ⟨Code.quiet_builtin _ (by decide +kernel), codeAny_builtin PyProof.Rows.entry_list_iadd' ?_⟩))
  have hob' : (s.heap.push (seqObj "list" #[] 0)).get? t = some ob := Heap.get?_push_of_some _ hob
  show wpAny _ _ (Builtin.List.listExtendWith (.ref s.heap.objs.size) (.ref t) (.ref s.heap.objs.size)) _ _ { s with heap := s.heap.push (seqObj "list" #[] 0) }
  delta Builtin.List.listExtendWith
  refine wpAny_bind (wpAny_typeOf (T := "tuple") ⟨ob, hob', hcl⟩ ?_)
  rw [if_pos (by rw [show (Value.type "tuple" == Value.type "tuple") = true by rfl]; simp)]
  refine wpAny_bind (PyProof.Rows.listItems_at hob' hdt (wpAny_bind (PyProof.Rows.listItems_at (xs := #[]) (n := 0) (Heap.get?_push_size _ rfl) rfl ?_)))
  rw [if_neg (by simp)]
  refine wpAny_bind (PyProof.Rows.listUpdate_at (xs := #[]) (n := 0) (Heap.get?_push_size _ rfl) rfl (wpAny_pure ?_) (Nat.zero_le _) (by show (#[] ++ vs.toArray).size ≤ sizeLine + 1; simp only [Array.size_append, List.size_toArray, List.length_nil]; omega))
  show wpAny _ A (load s.heap.objs.size >>= _) Q E _
  refine wpAny_bind (wpAny_load (PyProof.Rows.get?_update_seq (Heap.get?_push_size _ rfl) _) ?_)
  have e0 : ((#[] : Array Value) ++ vs.toArray).toList = vs := by simp
  show wpAny (model prog w) A (pure ((#[] : Array Value) ++ vs.toArray).toList) Q E _
  rw [e0]
  exact wpAny_pure h
theorem sorted_tupv {κ : PyProof.Rows.KeyKind} {t : Addr} {vs : List Value} {Q : Value → Shared → Prop} (ht : IsTup s.heap t vs.toArray) (S : SortsAt prog w A.in1.in1 { s with heap := sortingHeap (copyHeap s.heap vs) (s.heap.objs.size + 1) vs } κ vs) (hz : vs.length ≤ sizeLine)
    (h : Q (.ref (s.heap.objs.size + 1)) { s with heap := sortedAll s.heap vs (sortVals κ false vs vs).toArray }) : wpAny (model prog w) A (call (.builtin "sorted") [.ref t]) Q E s := by
  have sz : ((s.heap.push (seqObj "list" #[] 0)).update s.heap.objs.size (Obj.mapSeq (· ++ vs.toArray))).objs.size = s.heap.objs.size + 1 := by rw [Heap.size_update, PyProof.Rows.size_push']
  refine call_function_entry_kw kind_sorted plain_sorted entry_sorted (args_sorted1 _) ?_
  unfold Builtin.«sorted»
  refine wpAny_bind (m := checkCount "sorted" 1 1 _) (wpAny_pure (wpAny_bind (coll_tup ht hz (wpAny_bind (wpAny_newList ?_ hz)))))
  show wpAny (model prog w) _ _ _ _ { s with heap := copyHeap s.heap vs }
  rw [sz]
  refine wpAny_bind (wpAny_holding (wpAny_call_entry_kw slot_list_sort ⟨_, copyHeap_at s.heap vs, rfl⟩ entry_list_sort ?go (args_list_sort _)))
  case go =>
    show wpAny (model prog w) A.in1.in1 (Builtin.«list.sort» ⟨[.ref (s.heap.objs.size + 1)], []⟩) _ _ _
    exact list_sort_vals (s := { s with heap := copyHeap s.heap vs }) (copyHeap_at s.heap vs) S hz ⟨_, rfl, wpAny_pure ⟨_, rfl, h⟩⟩
end
def alikeB (ds : List PyData) : Bool := ds.all fun d => ds.all fun e => alike d e
def isTup1 : PyData → Bool
  | .tuple (_ :: _) => true
  | _ => false
def noTup : PyData → Bool
  | .tuple _ => false
  | .none => false
  | _ => true
def sortOk (ds : List PyData) : Bool := alikeB ds && (ds.all isTup1 || ds.all noTup) && ds.all small && decide (ds.length ≤ sizeLine)
def sortD (ds : List PyData) : List PyData := ds.mergeSort (dataLe false id)
def gSorted : List PyData → Option OD
  | [.list ds] => if sortOk ds = true then some (.ol (sortD ds)) else none
  | [.tuple ds] => if sortOk ds = true then some (.ol (sortD ds)) else none
  | _ => none
theorem sortOk_at {ds : List PyData} (h : sortOk ds = true) : AllAlike ds ∧ Sortable ds ∧ (∀ d, d ∈ ds → d.depth ≤ 60) ∧ ds.length ≤ sizeLine := by
  unfold sortOk at h
  simp only [Bool.and_eq_true, Bool.or_eq_true, List.all_eq_true, decide_eq_true_eq, alikeB] at h
  obtain ⟨⟨⟨h1, h2⟩, h3⟩, h4⟩ := h
  refine ⟨fun d hd d' hd' => h1 d hd d' hd', ?_, fun d hd => of_decide_eq_true (h3 d hd), h4⟩
  rcases h2 with h2 | h2
  · refine .inl fun d hd => ?_
    have := h2 d hd
    cases d with
    | tuple xs => cases xs with
      | nil => cases this
      | cons x r => exact ⟨x, r, rfl⟩
    | _ => cases this
  · refine .inr fun d hd => ?_
    have := h2 d hd
    cases d <;> first | (cases this; done) | exact ⟨fun z => (by cases z), fun _ z => by cases z⟩
section
variable [Tbs] {X : Cx} {K : Kw} {pins : List (Addr × Obj)} {σ : L2.St} {H : Hp} {s : Shared}
theorem dvs_each {F : Hp} : ∀ {vs : List V} {us : List Value} {ds : List PyData}, DVs K F vs ds → Vals vs us → EachIs (fun v d => ∃ x, RelV x v ∧ DV K F x d) us ds
  | _, _, _, .nil, .nil => .nil
  | _, _, _, .cons h t, .cons r q => .cons ⟨_, r, h⟩ (dvs_each t q)
theorem each_dvs {F : Hp} : ∀ {us : List Value} {ds : List PyData}, EachIs (fun v d => ∃ x, RelV x v ∧ DV K F x d) us ds → ∃ vs, DVs K F vs ds ∧ Vals vs us
  | _, _, .nil => ⟨[], .nil, .nil⟩
  | _, _, .cons ⟨x, r, h⟩ t => by
    obtain ⟨vs, h2, r2⟩ := each_dvs t
    exact ⟨x :: vs, .cons h h2, .cons r r2⟩
theorem co_sorted (hu : X.A.units + 64 < cLine) : CallO X (.builtin "sorted") gSorted := by
  intro pins s σ F H xs us ds o Q I r sub vw e q
  cases vw with
  | nil => cases e
  | cons h t =>
    cases t with
    | cons _ _ => rename_i d _ _ _ _ _ _; cases d <;> cases e
    | nil =>
      rename_i x d
      obtain ⟨u, rfl, ru⟩ := vals1 r
      have core : ∀ (es : List PyData) (vs : List V) (its : List Value), sortOk es = true → some (OD.ol (sortD es)) = some o → DVs X.KW F vs es → Vals vs its →
          (∀ out : List Value, out.length = es.length → EachIs (fun v d => ∃ x, RelV x v ∧ DV X.KW F x d) out (sortD es) → EP X pins σ Q (.ref (s.heap.objs.size + 1)) { s with heap := sortedAll s.heap its out.toArray }) ∧
          EachIs (fun v d => ∃ x, RelV x v ∧ DV X.KW F x d) its es ∧ EachIs (fun v d => ∃ as, Reads s.heap v d as) its es := fun es vs its ok eo dv rv => by
        have ea := dvs_each dv rv
        refine ⟨fun out hl eo' => ?_, ea, ea.mono fun v d ⟨x, r, h⟩ => (DV.mono sub h).reads I r⟩
        obtain ⟨ws, d2, r2⟩ := each_dvs eo'
        obtain ⟨ep, he'⟩ := PyProof.Rows.sortedAll_at s.heap its out.toArray
        obtain ⟨_, _, _, z4⟩ := sortOk_at ok
        have hn : H (s.heap.objs.size + 1) = none := I.hok.fresh (Nat.le_succ _)
        cases eo
        exact ⟨.ref _, upd H (s.heap.objs.size + 1) (.lst ws), I.laid (t' := s.toks) (fun _ _ => PyProof.Rows.sortedAll_old) (Nat.le_succ _) ⟨by rw [r2.length, hl]; exact z4, out, ep, r2, he'⟩, rfl, q _ _ _ (.lst hn d2)⟩
      cases d with
      | list es =>
        simp only [gSorted] at e
        split at e <;> try cases e
        rename_i ok
        obtain ⟨p, vs, rfl, h1, h2⟩ := h
        cases ru
        obtain ⟨its, rv, pl, _⟩ := I.list (SqL.of h1)
        obtain ⟨c1, c2, c3⟩ := core es vs its ok rfl h2 rv
        obtain ⟨z1, z2, z3, z4⟩ := sortOk_at ok
        exact sorted_data (enc := id) (bs := es) pl.isList c2 c3 (by simpa using z1) (by simpa using z2) z4 (fun b hb => by have := z3 b hb; show X.A.units + 2 + b.depth < cLine; omega) c1
      | tuple es =>
        simp only [gSorted] at e
        split at e <;> try cases e
        rename_i ok
        have h' : DV X.KW F x (.tuple es) := h
        cases h' with
        | tup h1 h2 =>
          cases ru
          obtain ⟨its, rv, pl, _⟩ := I.tuple (sub.sqT h1)
          obtain ⟨c1, c2, c3⟩ := core es _ its ok rfl h2 rv
          obtain ⟨z1, z2, z3, z4⟩ := sortOk_at ok
          have er' : EachIs (fun v d => ∃ as, Reads (sortingHeap (copyHeap s.heap its) (s.heap.objs.size + 1) its) v d as) its es := c3.mono fun _ _ ⟨as, r⟩ => ⟨as, PyProof.Rows.Reads.keeps (fun _ _ => sorting_copy_old) r⟩
          refine sorted_tupv pl (SortsAt.data (s := { s with heap := sortingHeap (copyHeap s.heap its) (s.heap.objs.size + 1) its }) er' z1 z2 fun d hd => ?_) (by rw [← rv.length, h2.len]; exact z4) ?_
          · have := z3 d hd
            show X.A.units + 1 + 1 + d.depth < cLine
            omega
          · refine c1 _ ?_ ?_
            · rw [sortVals_length false rfl, ← rv.length, h2.len]
            · have := sortVals_data (enc := id) (bs := es) false c2 (by simpa using er') (by simpa using z1)
              simpa [sortD] using this
      | _ => cases e
end
end Eg
namespace Eg
open PySem L2 PySem.W PySem.SeqAt PySem.Spec PyProof.Rows
section
variable {A : Around} {s : Shared} {prog : Program} {w : World} {E : Value → Shared → Prop}
theorem best1 (bt : Nat → Nat → Bool) : argBest bt 1 = if bt 1 0 = true then 1 else 0 := rfl
theorem alike_two {x y : PyData} (h1 : alike y x = true) (hx : x ≠ .none) (hy : y ≠ .none) (a1 : alike x x = true) (a2 : alike y y = true) (a3 : alike x y = true) : AlikeAll [x, y] := by
  refine ⟨fun d hd e he => ?_, fun d hd => ?_⟩
  · simp only [List.mem_cons, List.not_mem_nil, or_false] at hd he
    rcases hd with rfl | rfl <;> rcases he with rfl | rfl <;> assumption
  · simp only [List.mem_cons, List.not_mem_nil, or_false] at hd
    rcases hd with rfl | rfl <;> assumption
theorem min2D {a b : Value} {x y : PyData} {as bs : List Addr} {Q : Value → Shared → Prop} (hh : A.handled = none) (ra : Reads s.heap a x as) (rb : Reads s.heap b y bs) (al : AlikeAll [x, y]) (hu : A.units + 1 + PyData.depthAll [x, y] < cLine)
    (h : ∀ h' tk, (∀ c o, s.heap.get? c = some o → h'.get? c = some o) → Q (if dataLt y x = true then b else a) { s with heap := h', toks := tk }) : wpAny (model prog w) A (call (.builtin "min") [a, b]) Q E s := by
  have nm : (toString "min" ++ toString ".loop" : String) = "min.loop" := by decide
  refine call_function_tree (F.kind_min) F.plain_min F.entry_min (F.args_min2 _ _) ?_
  show wpAny _ A.in1 (Builtin.Builtins.bindParams "min" ["key", "default"] 0 ⟨[], []⟩ >>= fun _ => _) _ _ s
  refine wpAny_bind (wpAny_of_eq (show Builtin.Builtins.bindParams "min" ["key", "default"] 0 ⟨[], []⟩ = pure [none, none] from rfl) (wpAny_bind (wpAny_newObj_type ?_)))
  generalize hS : ({ s with heap := s.heap.push { cls := .type "tuple", data := .seq [a, b].toArray } } : Shared) = s1
  have k1 : ∀ c o, s.heap.get? c = some o → s1.heap.get? c = some o := fun c o e => by rw [← hS]; exact Heap.get?_push_of_some _ e
  have hT : s1.heap.IsTuple s.heap.objs.size #[a, b] := by rw [← hS]; exact ⟨_, Heap.get?_push_size _ rfl, rfl, 0, rfl⟩
  have rd : ReadsAll s1.heap (#[a, b] : Array Value).toList [x, y] _ := .cons (Reads.keeps k1 ra) (.cons (Reads.keeps k1 rb) .nil)
  refine wpAny_bind (iter_tupleW (A := A.in1) hh hT fun s2 e2 W st hfp hw hk => ?_)
  refine wpAny_bind (wpAny_newObj_type ?_)
  rw [nm]
  refine wpAny_pure ⟨plainId_quiet F.plain_min_loop _, codeAny_min_loop_firstH W s1.heap hw _ (cmpIn_lt (A := A.in1) rd al (by show A.units + 1 + _ < _; exact hu)) s2.heap.objs.size (fun z => Nat.lt_irrefl _ (hfp _ z)) (fresh_in hk) _ (by simp)
    (fun c o e => Heap.get?_push_of_some _ (hk c o e)) (W.frame 0 s2 _ s2.toks st (Nat.le_refl _) fun c _ o e => Heap.get?_push_of_some _ e) (Heap.get?_push_size _ rfl) fun v s' hP hm => ?_⟩
  obtain ⟨h', tk, rfl, hk'⟩ := moved_old e2 rfl (Moved.drop_new (tk := s2.toks) hm (Nat.le_refl _))
  have hv : v = if dataLt y x = true then b else a := by
    have hP' : (#[a, b] : Array Value)[argBest (fun i j => dataLt ([x, y].getD i .none) ([x, y].getD j .none)) 1]? = some v := hP
    rw [best1] at hP'
    simp only [List.getD_cons_zero, List.getD_cons_succ] at hP'
    cases q : dataLt y x with
    | true => rw [q] at hP'; simpa using hP'.symm
    | false => rw [q] at hP'; simpa using hP'.symm
  rw [hv]
  have := h h' tk (fun c o e => hk' c o (k1 c o e))
  rw [← hS]
  exact this
end
def pairOk (x y : PyData) : Bool := alike x y && alike y x && alike x x && alike y y && !isNon x && !isNon y && small x && small y
def isLst : PyData → Bool
  | .list _ => true
  | _ => false
def gMin : List PyData → Option OD
  | [x, y] => if pairOk x y = true ∧ isLst x = false ∧ isLst y = false then some (.sh (if dataLt y x = true then y else x)) else none
  | _ => none
theorem pairOk_at {x y : PyData} (h : pairOk x y = true) : AlikeAll [x, y] ∧ PyData.depthAll [x, y] ≤ 60 := by
  unfold pairOk at h
  simp only [Bool.and_eq_true, Bool.not_eq_true'] at h
  obtain ⟨⟨⟨⟨⟨⟨⟨h1, h2⟩, h3⟩, h4⟩, h5⟩, h6⟩, h7⟩, h8⟩ := h
  have n5 : x ≠ .none := fun z => by subst z; cases h5
  have n6 : y ≠ .none := fun z => by subst z; cases h6
  refine ⟨alike_two h2 n5 n6 h3 h4 h1, ?_⟩
  have d1 : x.depth ≤ 60 := of_decide_eq_true h7
  have d2 : y.depth ≤ 60 := of_decide_eq_true h8
  simp only [PyData.depthAll]
  omega
section
variable [Tbs] {X : Cx}
theorem Vw.noLst {K : Kw} {F H : Hp} {v : V} {d : PyData} (h : Vw K F H v d) (n : isLst d = false) : DV K F v d := by
  cases d with
  | list _ => cases n
  | _ => exact h
theorem co_min (hc : X.calm = true) (hu : X.A.units + 64 < cLine) : CallO X (.builtin "min") gMin := by
  intro pins s σ F H xs us ds o Q I r sub vw e q
  match ds, vw, e with
  | [x, y], .cons (v := v1) h1 (.cons (v := v2) h2 .nil), e =>
    simp only [gMin] at e
    split at e <;> cases e
    rename_i hz
    obtain ⟨z1, z2, z3⟩ := hz
    obtain ⟨al, dp⟩ := pairOk_at z1
    obtain ⟨u1, u2, rfl, r1, r2⟩ := vals2 r
    have d1 := h1.noLst z2
    have d2 := h2.noLst z3
    obtain ⟨as, rd1⟩ := (DV.mono sub d1).reads I r1
    obtain ⟨bs, rd2⟩ := (DV.mono sub d2).reads I r2
    refine min2D (I.ok.hd hc) rd1 rd2 al (by omega) fun h' tk k => ?_
    cases q0 : dataLt y x with
    | true => rw [q0] at q; exact ⟨v2, H, I.kept k, r2, q _ _ _ (.asis d2)⟩
    | false => rw [q0] at q; exact ⟨v1, H, I.kept k, r1, q _ _ _ (.asis d1)⟩
end
end Eg
namespace Eg
open PySem L2 PySem.W PySem.SeqAt
section
variable [Tbs] {X : Cx} {C : Ct} {e a b c : Expr} {es : List Expr} {pos apos cpos : Pos}
theorem _root_.L2.PT.imp {t t' : TT} (h : PT X e t) (i : ∀ σ H Q, t' σ H Q → t σ H Q) : PT X e t' := ⟨fun pins s σ H Q I q => h.run pins s σ H Q I (i _ _ _ q)⟩
theorem _root_.L2.PW.imp {t t' : TT} (h : PW X e t) (i : ∀ σ H Q, t' σ H Q → t σ H Q) : PW X e t' := ⟨fun w pins s σ H Q I q => h.run w pins s σ H Q I (i _ _ _ q)⟩
def asBool : PyData → M Bool
  | .bool b => M.ret b
  | _ => M.bad
theorem asBool_post {β : Type} {σ : St} {ρ ρ0 : Rho} {F H : Hp} {Q : Bool → Hp → Prop} {d : PyData} {v : V} {K : Kw} (sr : SR C.K F H σ ρ) (h : DV K F v d) (p : PostE (β := Bool) C (fun _ _ _ _ _ _ v d => v = d) σ ρ F H Q (asBool d ρ)) : ∃ k, v = .bl k ∧ Q k H := by
  cases d with
  | bool b => cases h; exact ⟨b, rfl, p F H b Grow.refl sr rfl⟩
  | _ => exact p.elim
def rOp (K : Kw) (g : PyData → PyData → Option PyData) : R2 := fun x y H Q => ∃ dx dy d, DV K H x dx ∧ DV K H y dy ∧ g dx dy = some d ∧ ∀ w, atom d = some w → Q w H
theorem opR_of {f : Value → Value → Sem Value} {g : PyData → PyData → Option PyData} (ho : OpD X f g) : OpR X f (rOp X.KW g) :=
  fun pins s σ H x y v u Q I rx ry ⟨dx, dy, d, h1, h2, e, q⟩ => ho pins s σ H x y v u dx dy d Q I rx ry h1 h2 e q
theorem t_cmp {op : CmpOp} {g : PyData → PyData → Option PyData} {ma mb : M Arg} (ho : OpD X (compareOp op) g) (ha : PE X a (tA C ma)) (hb : PE X b (tA C mb)) (hK : X.KW = C.K := by rfl)
    (hm : behindInMarks op b = false := by first | exact nobehind _ (by decide) (by decide) | rfl) : PT X (.Compare a [op] [b] pos) (tT C ((m2 g ma mb).bind asBool)) := by
  refine (pt_cmpR (opR_of ho) ha hb hm).imp fun σ H Q ⟨F, ρ, sr, p⟩ => ?_
  have p' : PostE C (rD C.K) σ ρ F H (fun x H' => ∃ k, x = V.bl k ∧ Q k H') (m2 g ma mb ρ) := p.part fun d ρ1 F1 H1 x e1 q1 g1 s1 r1 => asBool_post (β := Bool) (ρ0 := ρ) s1 r1 (q1.on stb_T g1)
  exact two sr stb_D p' fun x y dx dy d ρ2 F2 H2 s2 r1 r2 e q => by
    rw [hK]
    exact ⟨dx, dy, d, r1.dv s2.sub, r2.dv s2.sub, e, fun w hw => q F2 H2 w Grow.refl s2 (atom_dv hw)⟩
def mAnd (ma mb : M Bool) : M Bool := ma.bind fun b => if b = true then mb else M.ret false
def mOr (ma mb : M Bool) : M Bool := ma.bind fun b => if b = true then M.ret true else mb
theorem w_one1 {ma : M Bool} (ha : PT X a (tT C ma)) : PW X (.BoolOp .And [a] pos) (tT C ma) := pw_and1 ha
theorem w_one2 {ma : M Bool} (ha : PT X a (tT C ma)) : PW X (.BoolOp .Or [a] pos) (tT C ma) := pw_or1 ha
theorem w_and {ma mb : M Bool} (ha : PT X a (tT C ma)) (hb : PW X (.BoolOp .And (b :: es) pos) (tT C mb)) : PW X (.BoolOp .And (a :: b :: es) pos) (tT C (mAnd ma mb)) :=
  (pw_and ha hb).imp fun σ H Q ⟨F, ρ, sr, p⟩ => ⟨F, ρ, sr, p.part fun k ρ1 F1 H1 x e1 q1 g1 s1 r1 => by
    subst r1
    have q1 := q1.on stb_T g1
    cases x with
    | true => exact ⟨F1, ρ1, s1, q1⟩
    | false => exact q1 F1 H1 false Grow.refl s1 rfl⟩
theorem w_or {ma mb : M Bool} (ha : PT X a (tT C ma)) (hb : PW X (.BoolOp .Or (b :: es) pos) (tT C mb)) : PW X (.BoolOp .Or (a :: b :: es) pos) (tT C (mOr ma mb)) :=
  (pw_or ha hb).imp fun σ H Q ⟨F, ρ, sr, p⟩ => ⟨F, ρ, sr, p.part fun k ρ1 F1 H1 x e1 q1 g1 s1 r1 => by
    subst r1
    have q1 := q1.on stb_T g1
    cases x with
    | false => exact ⟨F1, ρ1, s1, q1⟩
    | true => exact q1 F1 H1 true Grow.refl s1 rfl⟩
theorem t_w {m : M Bool} (h : PW X e (tT C m)) : PT X e (tT C m) := h.pt
def mNot (ma : M Bool) : M Bool := ma.bind fun b => M.ret (!b)
def mAndV (ma mb : M PyData) : M PyData := ma.bind fun d => (asBool d).bind fun b => if b = true then mb else M.ret (.bool false)
def mOrV (ma mb : M PyData) : M PyData := ma.bind fun d => (asBool d).bind fun b => if b = true then M.ret (.bool true) else mb
def mNotV (ma : M PyData) : M PyData := ma.bind fun d => (asBool d).bind fun b => M.ret (.bool (!b))
theorem d_one {op : BoolOp} {m : M PyData} (h : PE X a (tD C m)) : PE X (.BoolOp op [a] pos) (tD C m) := pe_one h
theorem d_and {ma mb : M PyData} (ha : PE X a (tD C ma)) (hb : PE X (.BoolOp .And (b :: es) pos) (tD C mb)) : PE X (.BoolOp .And (a :: b :: es) pos) (tD C (mAndV ma mb)) :=
  (pe_and ha hb).imp fun σ H Q ⟨F, ρ, sr, p⟩ => ⟨F, ρ, sr, p.part fun d ρ1 F1 H1 x e1 q1 g1 s1 r1 => by
    have q1 := q1.on stb_D g1
    cases d with
    | bool k =>
      cases r1
      refine ⟨k, rfl, ?_⟩
      cases k with
      | true => exact ⟨F1, ρ1, s1, q1⟩
      | false => exact q1 F1 H1 _ Grow.refl s1 (.bl false)
    | _ => exact q1.elim⟩
def gIsN (d : PyData) : Option PyData := some (.bool (isNon d))
def gNotN (d : PyData) : Option PyData := some (.bool (!isNon d))
theorem vw_non {K : Kw} {F H : Hp} {v : V} {d : PyData} (h : Vw K F H v d) : decide (v = .non) = isNon d := by
  cases d with
  | list ds => obtain ⟨p, vs, rfl, _, _⟩ := h; rfl
  | _ => cases h <;> rfl
theorem one1 {ma : M Arg} {g : PyData → Option PyData} {σ : St} {ρ : Rho} {F H : Hp} {Q : VK} {R : V → Hp → Prop} (sr : SR C.K F H σ ρ) (p : PostE C (rD C.K) σ ρ F H Q (m1 g ma ρ))
    (k : ∀ x dx d ρ2 F2 H2, SR C.K F2 H2 σ ρ2 → Vw C.K F2 H2 x dx → g dx = some d → PostE C (rD C.K) σ ρ2 F2 H2 Q (.ok d ρ2) → R x H2) : tA C ma σ H R :=
  one sr stb_D p fun x a ρ1 F1 H1 s1 g1 r1 q1 => by
    obtain ⟨o, eo, q⟩ := lift_some q1
    cases ea : res1 ρ1 a with
    | none => rw [ea] at eo; cases eo
    | some d => rw [ea] at eo; exact k x d o ρ1 F1 H1 s1 (rA.view (ρ0 := ρ) (H0 := H) s1 r1 ea) eo q
theorem d_notN {j pos'} {ma : M Arg} (ha : PE X a (tA C ma)) : PE X (.Compare a [.IsNot] [.Constant .none j pos'] pos) (tD C (m1 gNotN ma)) :=
  (pe_cmp (pc_notN ha) rfl).imp fun σ H Q ⟨F, ρ, sr, p⟩ => one1 sr p fun x dx d ρ2 F2 H2 s2 r e q => by cases e; rw [vw_non r]; exact q F2 H2 _ Grow.refl s2 (.bl _)
theorem t_isN {j pos'} {ma : M Arg} (ha : PE X a (tA C ma)) : PT X (.Compare a [.Is] [.Constant .none j pos'] pos) (tT C ((m1 gIsN ma).bind asBool)) :=
  (pt_cmp (pc_isN ha) rfl).imp fun σ H Q ⟨F, ρ, sr, p⟩ => by
    have p' : PostE C (rD C.K) σ ρ F H (fun x H' => ∃ k, x = V.bl k ∧ Q k H') (m1 gIsN ma ρ) := p.part fun d ρ1 F1 H1 x e1 q1 g1 s1 r1 => asBool_post (β := Bool) (ρ0 := ρ) s1 r1 (q1.on stb_T g1)
    exact one1 sr p' fun x dx d ρ2 F2 H2 s2 r e q => by cases e; rw [vw_non r]; exact q F2 H2 _ Grow.refl s2 (.bl _)
theorem t_notN {j pos'} {ma : M Arg} (ha : PE X a (tA C ma)) : PT X (.Compare a [.IsNot] [.Constant .none j pos'] pos) (tT C ((m1 gNotN ma).bind asBool)) :=
  (pt_cmp (pc_notN ha) rfl).imp fun σ H Q ⟨F, ρ, sr, p⟩ => by
    have p' : PostE C (rD C.K) σ ρ F H (fun x H' => ∃ k, x = V.bl k ∧ Q k H') (m1 gNotN ma ρ) := p.part fun d ρ1 F1 H1 x e1 q1 g1 s1 r1 => asBool_post (β := Bool) (ρ0 := ρ) s1 r1 (q1.on stb_T g1)
    exact one1 sr p' fun x dx d ρ2 F2 H2 s2 r e q => by cases e; rw [vw_non r]; exact q F2 H2 _ Grow.refl s2 (.bl _)
def mIf {γ : Type} (mt : M Bool) (ma mb : M γ) : M γ := mt.bind fun b => if b = true then ma else mb
theorem d_if {mt : M Bool} {ma mb : M PyData} (hc : PT X c (tT C mt)) (ha : PE X a (tD C ma)) (hb : PE X b (tD C mb)) : PE X (.IfExp c a b pos) (tD C (mIf mt ma mb)) :=
  (pe_ifExp hc ha hb).imp fun σ H Q ⟨F, ρ, sr, p⟩ => ⟨F, ρ, sr, p.part fun k ρ1 F1 H1 x e1 q1 g1 s1 r1 => by
    subst r1
    have q1 := q1.on stb_D g1
    cases x with
    | true => exact ⟨F1, ρ1, s1, q1⟩
    | false => exact ⟨F1, ρ1, s1, q1⟩⟩
theorem o_if {mt : M Bool} {ma mb : M OD} (hc : PT X c (tT C mt)) (ha : PE X a (tO C ma)) (hb : PE X b (tO C mb)) : PE X (.IfExp c a b pos) (tO C (mIf mt ma mb)) :=
  (pe_ifExp hc ha hb).imp fun σ H Q ⟨F, ρ, sr, p⟩ => ⟨F, ρ, sr, p.part fun k ρ1 F1 H1 x e1 q1 g1 s1 r1 => by
    subst r1
    have q1 := q1.on stb_O g1
    cases x with
    | true => exact ⟨F1, ρ1, s1, q1⟩
    | false => exact ⟨F1, ρ1, s1, q1⟩⟩
theorem SR.write {K : Kw} {F H : Hp} {σ : St} {ρ : Rho} {i : Nat} {a : Addr} {o o' : OD} {u : HO} (s : SR K F H σ ρ) (h : ρ[i]? = some (some o)) (io : o.isO = true) (hv : σ[i]? = some (some (.ref a))) (io' : o'.isO = true) (hr : OR K F (upd H a u) (.ref a) o') :
    SR K F (upd H a u) σ (ρ.set i (some o')) ∧ Grow (own σ ρ) (own σ (ρ.set i (some o'))) F H F (upd H a u) := by
  obtain ⟨fa, ua, ha⟩ := own.at s ⟨i, o, h, io, hv⟩
  have na := own.noT s ⟨i, o, h, io, hv⟩ ha
  have hl : i < ρ.length := (List.getElem?_eq_some_iff.mp h).1
  have w := s.wipe i
  have s1 : SR K F (upd H a u) σ (ρ.set i none) := by
    refine w.on (Same.refl _) (fun b x e => by rw [upd_ne (ne_of_none e fa)]; exact s.sub b x e) (s.tb.wr ha na) fun b hb => ?_
    obtain ⟨f1, x, h1⟩ := own.at w hb
    refine ⟨f1, fun x' e _ => ?_⟩
    rw [upd_ne (fun z => own.wipeNe s h io hv (by rw [← z]; exact hb))]
    exact e
  refine ⟨?_, Grow.less (Grow.wr ⟨i, o, h, io, hv⟩) fun b hb => ?_⟩
  · have s2 := SR.put (i := i) (o := o') s1 hv hr (fun _ b e => by
      cases e
      rw [List.set_set]
      exact own.wipeNe s h io hv)
    rw [List.set_set] at s2
    exact s2
  · rcases hb.put with z | ⟨_, z⟩
    · exact (own.wipe z).1
    · exact ⟨i, o, h, io, z⟩
def mAppend (i : Nat) (m : M PyData) : M PyData := m.bind fun d => fun ρ => match ρ[i]? with
  | some (some (.ol xs)) => if xs.length < sizeLine then .ok .none (ρ.set i (some (.ol (xs ++ [d])))) else .bad
  | _ => .bad
def isOl (ρ : Rho) (i : Nat) : Bool := match ρ[i]? with
  | some (some (.ol _)) => true
  | _ => false
def mOl {γ : Type} (i : Nat) (m : M γ) : M γ := fun ρ => if isOl ρ i = true then m ρ else .bad
omit [Tbs] in
theorem isOl_at {ρ : Rho} {i : Nat} (h : isOl ρ i = true) : ∃ xs, ρ[i]? = some (some (.ol xs)) := by
  unfold isOl at h
  split at h
  · rename_i xs e; exact ⟨xs, e⟩
  · cases h
theorem x_append {i : Nat} {o : Expr} {m : M PyData} (ho : PE X o (tVar i)) (he : PE X e (tD C m))
    (hbase : attributeBase o "append" X.env (eval o X.env) = eval o X.env := by rfl)
    (hfew : ((backTo cpos (starEach [e] X.env)).all (fun z => !z.1) && (backToKw cpos (keywordEach [] X.env)).all (fun z => z.1.isSome)
      && decide ([e].length + ([] : List Keyword).length + (if ([] : List Keyword).isEmpty then 0 else 1) < 30)) = true := by rfl)
    (hline : (apos.endLine == cpos.line) = true := by rfl) (hs : starEach [e] X.env = (false, eval e X.env) :: starEach [] X.env := by rfl) :
    PE X (.Call (.Attribute o "append" apos) [e] [] cpos) (tD C (mOl i (mAppend i m))) := by
  refine (pe_bm PySem.F.plainAttrs_list PySem.F.slot_list_append PySem.F.type_list_append mt_append ho (pa_cons he pa_nil hs) hbase hfew hline hs rfl).imp fun σ H Q ⟨F, ρ, sr, p⟩ => ?_
  unfold mOl at p
  split at p
  · rename_i hi
    obtain ⟨xs, ex⟩ := isOl_at hi
    obtain ⟨v, hv, a, vs, rfl, h1, h2, h3⟩ := sr.sl i _ ex
    refine ⟨_, hv, .inl ⟨rfl, vs, SqL.of h2⟩, F, ρ, sr, p.part fun d ρ1 F1 H1 y e1 q1 g1 s1 r1 => ?_⟩
    have q1 := q1.on stb_D g1
    cases q : ρ1[i]? with
    | none => simp only [q] at q1; exact q1.elim
    | some oo =>
      cases oo with
      | none => simp only [q] at q1; exact q1.elim
      | some oo =>
        cases oo with
        | ol ys =>
          simp only [q] at q1
          split at q1
          · rename_i hz
            obtain ⟨v', hv', b, ws, e2, k1, k2, k3⟩ := s1.sl i _ q
            rw [hv] at hv'; cases hv'; cases e2
            have st := SR.write (i := i) (o' := .ol (ys ++ [d])) (u := .lst (ws ++ [y])) s1 q rfl hv rfl ⟨a, ws ++ [y], rfl, k1, upd_same, k3.append (.cons r1 .nil)⟩
            exact ⟨a, ws, y, rfl, rfl, k2, by rw [k3.len]; exact hz, q1 F1 _ _ st.2 st.1 .non⟩
          · exact q1.elim
        | _ => simp only [q] at q1; exact q1.elim
  · exact p.elim
def mPopAt (i : Nat) (m : M PyData) : M PyData := m.bind fun d => fun ρ => match d, ρ[i]? with
  | .int j, some (some (.ol xs)) => if -(2 ^ 63) ≤ j ∧ j < 2 ^ 63 then (match seqIndex? j xs.length with
      | some k => (match xs[k]? with
        | some y => .ok y (ρ.set i (some (.ol (xs.eraseIdx k))))
        | none => .bad)
      | none => .bad) else .bad
  | _, _ => .bad
theorem x_popAt {i : Nat} {o : Expr} {m : M PyData} (ho : PE X o (tVar i)) (he : PE X e (tD C m))
    (hbase : attributeBase o "pop" X.env (eval o X.env) = eval o X.env := by rfl)
    (hfew : ((backTo cpos (starEach [e] X.env)).all (fun z => !z.1) && (backToKw cpos (keywordEach [] X.env)).all (fun z => z.1.isSome)
      && decide ([e].length + ([] : List Keyword).length + (if ([] : List Keyword).isEmpty then 0 else 1) < 30)) = true := by rfl)
    (hline : (apos.endLine == cpos.line) = true := by rfl) (hs : starEach [e] X.env = (false, eval e X.env) :: starEach [] X.env := by rfl) :
    PE X (.Call (.Attribute o "pop" apos) [e] [] cpos) (tD C (mOl i (mPopAt i m))) := by
  refine (pe_bm PySem.F.plainAttrs_list PySem.F.slot_list_pop PySem.F.type_list_pop mt_popAt ho (pa_cons he pa_nil hs) hbase hfew hline hs rfl).imp fun σ H Q ⟨F, ρ, sr, p⟩ => ?_
  unfold mOl at p
  split at p
  · rename_i hi
    obtain ⟨xs, ex⟩ := isOl_at hi
    obtain ⟨v, hv, a, vs, rfl, h1, h2, h3⟩ := sr.sl i _ ex
    refine ⟨_, hv, .inl ⟨rfl, vs, SqL.of h2⟩, F, ρ, sr, p.part fun d ρ1 F1 H1 y e1 q1 g1 s1 r1 => ?_⟩
    have q1 := q1.on stb_D g1
    cases d with
    | int j =>
      cases q : ρ1[i]? with
      | none => simp only [q] at q1; exact q1.elim
      | some oo =>
        cases oo with
        | none => simp only [q] at q1; exact q1.elim
        | some oo =>
          cases oo with
          | ol ys =>
            simp only [q] at q1
            split at q1
            · rename_i hz
              cases ek : seqIndex? j ys.length with
              | none => simp only [ek] at q1; exact q1.elim
              | some k =>
                simp only [ek] at q1
                cases ey : ys[k]? with
                | none => simp only [ey] at q1; exact q1.elim
                | some z =>
                  simp only [ey] at q1
                  obtain ⟨v', hv', b, ws, e2, k1, k2, k3⟩ := s1.sl i _ q
                  rw [hv] at hv'; cases hv'; cases e2
                  obtain ⟨w, ew, dw⟩ := k3.get ey
                  cases r1
                  have st := SR.write (i := i) (o' := .ol (ys.eraseIdx k)) (u := .lst (ws.eraseIdx k)) s1 q rfl hv rfl ⟨a, ws.eraseIdx k, rfl, k1, upd_same, k3.erase k⟩
                  exact ⟨a, ws, j, k, w, rfl, rfl, k2, hz.1, hz.2, by rw [k3.len]; exact ek, ew, q1 F1 _ _ st.2 st.1 dw⟩
            · exact q1.elim
          | _ => simp only [q] at q1; exact q1.elim
    | _ => exact q1.elim
  · exact p.elim
end
end Eg
namespace Eg
open PySem L2 PySem.W PySem.SeqAt
def keyD : PyData → Option Key
  | .int i => some (.inl i)
  | .str x => some (.inr x)
  | _ => none
def dGet (kvs : List (Key × PyData)) (k : Key) : Option PyData := (kvs.find? fun kv => decide (kv.1 = k)).map (·.2)
def dPut (kvs : List (Key × PyData)) (k : Key) (v : PyData) : List (Key × PyData) :=
  if (kvs.any fun e => decide (e.1 = k)) = true then kvs.map (fun e => if e.1 = k then (e.1, v) else e) else kvs ++ [(k, v)]
section
variable [Tbs] {K : Kw} {H : Hp}
theorem KD.get {k : Key} : ∀ {es : List (Key × V)} {kvs : List (Key × PyData)} {d : PyData}, KD K H es kvs → dGet kvs k = some d → ∃ v, valV es k = some v ∧ DV K H v d
  | _, _, _, .nil, e => by cases e
  | _, _, d, .cons (k := k') (v := v) (d := d') h t, e => by
    by_cases q : k' = k
    · simp only [dGet, List.find?_cons, q, decide_true, Option.map_some] at e
      cases e
      exact ⟨v, valV_pos q, h⟩
    · simp only [dGet, List.find?_cons, q, decide_false] at e
      obtain ⟨w, e1, h1⟩ := KD.get t e
      exact ⟨w, by rw [valV_neg q]; exact e1, h1⟩
theorem KD.anyK {k : Key} : ∀ {es : List (Key × V)} {kvs : List (Key × PyData)}, KD K H es kvs → (es.any fun kv => decide (kv.1 = k)) = (kvs.any fun kv => decide (kv.1 = k))
  | _, _, .nil => rfl
  | _, _, .cons h t => by rw [List.any_cons, List.any_cons, KD.anyK t]
theorem KD.mapK {k : Key} {v : V} {d : PyData} (h : DV K H v d) : ∀ {es : List (Key × V)} {kvs : List (Key × PyData)}, KD K H es kvs → KD K H (es.map fun kv => if kv.1 = k then (kv.1, v) else kv) (kvs.map fun kv => if kv.1 = k then (kv.1, d) else kv)
  | _, _, .nil => .nil
  | _, _, .cons (k := k') h1 t => by
    rw [List.map_cons, List.map_cons]
    by_cases q : k' = k
    · rw [if_pos q, if_pos q]; exact .cons h (KD.mapK h t)
    · rw [if_neg q, if_neg q]; exact .cons h1 (KD.mapK h t)
theorem KD.snoc {k : Key} {v : V} {d : PyData} (h : DV K H v d) : ∀ {es : List (Key × V)} {kvs : List (Key × PyData)}, KD K H es kvs → KD K H (es ++ [(k, v)]) (kvs ++ [(k, d)])
  | _, _, .nil => .cons h .nil
  | _, _, .cons h1 t => .cons h1 (KD.snoc h t)
theorem KD.put {k : Key} {v : V} {d : PyData} (h : DV K H v d) {es : List (Key × V)} {kvs : List (Key × PyData)} (t : KD K H es kvs) : KD K H (putK es k v) (dPut kvs k d) := by
  unfold putK dPut
  rw [t.anyK]
  split
  · exact KD.mapK h t
  · exact KD.snoc h t
theorem KD.len : ∀ {es : List (Key × V)} {kvs : List (Key × PyData)}, KD K H es kvs → es.length = kvs.length
  | _, _, .nil => rfl
  | _, _, .cons _ t => by rw [List.length_cons, List.length_cons, KD.len t]
end
section
variable [Tbs] {X : Cx} {C : Ct} {e a b c o : Expr} {es : List Expr} {pos apos cpos pos' : Pos}
def mDGet (i : Nat) (mk : M PyData) : M PyData := mk.bind fun kd => fun ρ => match keyD kd, ρ[i]? with
  | some k, some (some (.od kvs)) => (match dGet kvs k with
    | some d => .ok d ρ
    | none => .bad)
  | _, _ => .bad
def mHas {γ : Type} (i : Nat) (m : M γ) : M γ := fun ρ => match ρ[i]? with
  | some (some _) => m ρ
  | _ => .bad
inductive Out where
  | nx
  | rt (r : OD)
  | bk
  | ct
def Pres (σ σ' : St) (P : List Nat) : Prop := σ'.length = σ.length ∧ ∀ p, p ∈ P → σ'[p]? = σ[p]?
theorem Pres.refl {σ : St} {P : List Nat} : Pres σ σ P := ⟨rfl, fun _ _ => rfl⟩
theorem Pres.trans {σ σ1 σ2 : St} {P : List Nat} (a : Pres σ σ1 P) (b : Pres σ1 σ2 P) : Pres σ σ2 P := ⟨b.1.trans a.1, fun p h => (b.2 p h).trans (a.2 p h)⟩
def PostS (C : Ct) (P : List Nat) (σ : St) (ρ : Rho) (F H : Hp) (D : Ends) : Res Out → Prop
  | .ok .nx ρ' => ∀ F' H' σ', Grow (own σ ρ) (own σ' ρ') F H F' H' → SR C.K F' H' σ' ρ' → Pres σ σ' P → D.nx σ' H'
  | .ok (.rt r) ρ' => ∀ F' H' σ' v, Grow (own σ ρ) (own σ' ρ') F H F' H' → SR C.K F' H' σ' ρ' → Pres σ σ' P → OR C.K F' H' v r → (r.isO = true → ∀ a, v = .ref a → ¬ own σ' ρ' a ∧ (H a = none ∨ own σ ρ a)) → D.rt v H'
  | .ok .bk ρ' => ∀ F' H' σ', Grow (own σ ρ) (own σ' ρ') F H F' H' → SR C.K F' H' σ' ρ' → Pres σ σ' P → D.bk σ' H'
  | .ok .ct ρ' => ∀ F' H' σ', Grow (own σ ρ) (own σ' ρ') F H F' H' → SR C.K F' H' σ' ρ' → Pres σ σ' P → D.ct σ' H'
  | .ex x ρ' => ∀ F' H' σ' cls d, Grow (own σ ρ) (own σ' ρ') F H F' H' → SR C.K F' H' σ' ρ' → Pres σ σ' P → C.XR F' H' cls d x → C.W cls d σ' H'
  | .bad => False
def tS (C : Ct) (P : List Nat) (m : M Out) : TS := fun D σ H => ∃ F ρ, SR C.K F H σ ρ ∧ PostS C P σ ρ F H D (m ρ)
section
variable {P : List Nat} {σ σ1 : St} {ρ ρ1 : Rho} {F H F1 H1 : Hp} {D : Ends} {st : Stmt} {sts : List Stmt}
theorem PostS.on {x : Res Out} (h : PostS C P σ ρ F H D x) (g : Grow (own σ ρ) (own σ1 ρ1) F H F1 H1) (pr : Pres σ σ1 P) : PostS C P σ1 ρ1 F1 H1 D x := by
  cases x with
  | bad => exact h
  | ex x ρ' => exact fun F' H' σ' cls d g' s p r => h F' H' σ' cls d (g.trans g') s (pr.trans p) r
  | ok o ρ' =>
    cases o with
    | nx => exact fun F' H' σ' g' s p => h F' H' σ' (g.trans g') s (pr.trans p)
    | bk => exact fun F' H' σ' g' s p => h F' H' σ' (g.trans g') s (pr.trans p)
    | ct => exact fun F' H' σ' g' s p => h F' H' σ' (g.trans g') s (pr.trans p)
    | rt r => exact fun F' H' σ' v g' s p ro n => h F' H' σ' v (g.trans g') s (pr.trans p) ro fun io a e => ⟨(n io a e).1, by
        rcases (n io a e).2 with z | z
        · exact g.back z
        · rcases g.ows a z with y | y
          · exact .inr y
          · exact .inl y⟩
theorem PostS.part {α β : Type} {RA : Hp → Hp → St → Rho → Rho → Hp → β → α → Prop} {R : β → Hp → Prop} {ma : M α} {f : α → M Out} (h : PostS C P σ ρ F H D (ma.bind f ρ))
    (k : ∀ a ρ' F' H' v, PostS C P σ ρ' F' H' D (f a ρ') → Grow (own σ ρ) (own σ ρ') F H F' H' → SR C.K F' H' σ ρ' → RA F' H' σ ρ' ρ H v a → R v H') : PostE C RA σ ρ F H R (ma ρ) := by
  unfold M.bind at h
  cases e : ma ρ with
  | ok a ρ' => rw [e] at h; exact fun F' H' v g s r => k a ρ' F' H' v (h.on g Pres.refl) g s r
  | ex x ρ' => rw [e] at h; exact fun F' H' cls d g s r => h F' H' σ cls d g s Pres.refl r
  | bad => rw [e] at h; exact h
theorem _root_.L2.PS.imp {t t' : TS} (h : PS X st t) (i : ∀ D σ H, t' D σ H → t D σ H) : PS X st t' := ⟨fun pins s σ H D I q => h.run pins s σ H D I (i _ _ _ q)⟩
theorem _root_.L2.PSs.imp {t t' : TS} (h : PSs X sts t) (i : ∀ D σ H, t' D σ H → t D σ H) : PSs X sts t' := ⟨fun pins s σ H D I q => h.run pins s σ H D I (i _ _ _ q)⟩
def sSeq (m n : M Out) : M Out := m.bind fun o => match o with
  | .nx => n
  | o => M.ret o
def sNext : M Out := M.ret .nx
theorem ss_nil : PSs X [] (tS C P sNext) := pss_nil.imp fun D σ H ⟨F, ρ, sr, p⟩ => p F H σ Grow.refl sr Pres.refl
theorem ss_cons {m n : M Out} (h1 : PS X st (tS C P m)) (h2 : PSs X sts (tS C P n)) : PSs X (st :: sts) (tS C P (sSeq m n)) :=
  (pss_cons h1 h2).imp fun D σ H ⟨F, ρ, sr, p⟩ => by
    refine ⟨F, ρ, sr, ?_⟩
    unfold sSeq M.bind at p
    cases e : m ρ with
    | bad => rw [e] at p; exact p
    | ex x ρ' => rw [e] at p; exact p
    | ok o ρ' =>
      rw [e] at p
      cases o with
      | nx => exact fun F' H' σ' g s pr => ⟨F', ρ', s, p.on g pr⟩
      | rt r => exact p
      | bk => exact p
      | ct => exact p
theorem ss_one {m : M Out} (h1 : PS X st (tS C P m)) : PSs X [st] (tS C P m) := (pss_one h1).imp fun D σ H q => q
def sExpr (m : M PyData) : M Out := m.bind fun _ => M.ret .nx
theorem s_expr {m : M PyData} (he : PE X e (tD C m)) (hs : swapsWith e none pos.line X.env = pure false := by rfl) : PS X (.Expr e pos) (tS C P (sExpr m)) :=
  (ps_expr he hs).imp fun D σ H ⟨F, ρ, sr, p⟩ => ⟨F, ρ, sr, p.part fun d ρ1 F1 H1 x q1 g1 s1 r1 => q1 F1 H1 σ Grow.refl s1 Pres.refl⟩
def sRet (m : M OD) : M Out := m.bind fun r => M.ret (.rt r)
theorem s_ret {m : M OD} (he : PE X e (tO C m)) : PS X (.Return (some e) pos) (tS C P (sRet m)) :=
  (ps_ret he).imp fun D σ H ⟨F, ρ, sr, p⟩ => by
    refine ⟨F, ρ, sr, ?_⟩
    unfold sRet M.bind at p
    cases e : m ρ with
    | bad => rw [e] at p; exact p
    | ex x ρ' => rw [e] at p; exact fun F' H' cls d g s r => p F' H' σ cls d g s Pres.refl r
    | ok r ρ' => rw [e] at p; exact fun F' H' v g s q => p F' H' σ v g s Pres.refl q.1 q.2
def sIf (mt : M Bool) (ma mb : M Out) : M Out := mt.bind fun b => if b = true then ma else mb
theorem s_if {as bs : List Stmt} {mt : M Bool} {ma mb : M Out} (hc : PT X c (tT C mt)) (ha : PSs X as (tS C P ma)) (hb : PSs X bs (tS C P mb)) : PS X (.If c as bs pos) (tS C P (sIf mt ma mb)) :=
  (ps_if hc ha hb).imp fun D σ H ⟨F, ρ, sr, p⟩ => ⟨F, ρ, sr, p.part fun k ρ1 F1 H1 x q1 g1 s1 r1 => by
    subst r1
    cases x with
    | true => exact ⟨F1, ρ1, s1, q1⟩
    | false => exact ⟨F1, ρ1, s1, q1⟩⟩
theorem SR.store {K : Kw} {i : Nat} {v : V} {o : OD} (s : SR K F H σ ρ) (hi : i < σ.length) (h : OR K F H v o) (no : o.isO = true → ∀ a, v = .ref a → ¬ own σ ρ a) : SR K F H (σ.set i (some v)) (ρ.set i (some o)) := by
  have hr : i < ρ.length := by rw [s.len]; exact hi
  refine ⟨s.sub, by rw [List.length_set, List.length_set]; exact s.len, fun j u hj => ?_, fun j k u u' a ne h1 i1 h2 i2 h3 h4 => ?_, s.tb⟩
  · by_cases e : i = j
    · subst e
      rw [List.getElem?_set_self hr] at hj; cases hj
      exact ⟨v, by rw [List.getElem?_set_self hi], h⟩
    · rw [List.getElem?_set_ne e] at hj
      obtain ⟨w, e1, e2⟩ := s.sl j u hj
      exact ⟨w, by rw [List.getElem?_set_ne e]; exact e1, e2⟩
  · by_cases ej : i = j
    · subst ej
      rw [List.getElem?_set_self hr] at h1; cases h1
      rw [List.getElem?_set_self hi] at h3
      rw [List.getElem?_set_ne ne] at h2 h4
      cases h3
      exact no i1 a rfl ⟨k, u', h2, i2, h4⟩
    · by_cases ek : i = k
      · subst ek
        rw [List.getElem?_set_self hr] at h2; cases h2
        rw [List.getElem?_set_self hi] at h4
        rw [List.getElem?_set_ne ej] at h1 h3
        cases h4
        exact no i2 a rfl ⟨j, u, h1, i1, h3⟩
      · rw [List.getElem?_set_ne ej] at h1 h3
        rw [List.getElem?_set_ne ek] at h2 h4
        exact s.sep j k u u' a ne h1 i1 h2 i2 h3 h4
theorem own.store {i : Nat} {v : V} {o : OD} {b : Addr} (hi : i < σ.length) (h : own (σ.set i (some v)) (ρ.set i (some o)) b) : own σ ρ b ∨ (o.isO = true ∧ v = .ref b) := by
  obtain ⟨j, u, e1, e2, e3⟩ := h
  by_cases e : i = j
  · subst e
    rw [List.getElem?_set_self hi] at e3; cases e3
    by_cases hr : i < ρ.length
    · rw [List.getElem?_set_self hr] at e1; cases e1; exact .inr ⟨e2, rfl⟩
    · rw [List.getElem?_eq_none (by rw [List.length_set]; omega)] at e1; cases e1
  · rw [List.getElem?_set_ne e] at e1 e3
    exact .inl ⟨j, u, e1, e2, e3⟩
theorem stored {i : Nat} {v : V} {o : OD} {ρ0 : Rho} {H0 F0 : Hp} (s : SR C.K F H σ ρ) (hi : i < σ.length) (hP : i ∉ P) (g : Grow (own σ ρ0) (own σ ρ) F0 H0 F H) (h : rO C.K F H σ ρ ρ0 H0 v o) :
    SR C.K F H (σ.set i (some v)) (ρ.set i (some o)) ∧ Grow (own σ ρ0) (own (σ.set i (some v)) (ρ.set i (some o))) F0 H0 F H ∧ Pres σ (σ.set i (some v)) P := by
  refine ⟨s.store hi h.1 fun io a e => (h.2 io a e).1, ⟨g.ext, g.keep, g.kt, g.new, fun b hb => ?_⟩, by rw [List.length_set], fun p hp => List.getElem?_set_ne fun z => hP (by rw [z]; exact hp)⟩
  rcases own.store hi hb with z | ⟨z1, z2⟩
  · exact g.ows b z
  · rcases (h.2 z1 b z2).2 with y | y
    · exact .inr y
    · exact .inl y
def sSet (i : Nat) (m : M OD) : M Out := m.bind fun o => fun ρ => .ok .nx (ρ.set i (some o))
theorem PostS.set {i : Nat} {m : M OD} (h : PostS C P σ ρ F H D (sSet i m ρ)) (hi : i < σ.length) (hP : i ∉ P) : PostE C (rO C.K) σ ρ F H (fun v H' => D.nx (σ.set i (some v)) H') (m ρ) := by
  unfold sSet M.bind at h
  cases e : m ρ with
  | bad => rw [e] at h; exact h
  | ex x ρ' => rw [e] at h; exact fun F' H' cls d g s r => h F' H' σ cls d g s Pres.refl r
  | ok o ρ' =>
    rw [e] at h
    intro F' H' v g s r
    obtain ⟨a1, a2, a3⟩ := stored (P := P) s hi hP g r
    exact h F' H' _ a2 a1 a3
theorem s_set {i : Nat} {x : Str} {m : M OD} (hN : X.N.Nodup) (hi : X.N[i]? = some x) (hx : Loc X.env.scope x) (he : PE X e (tO C m)) (hP : i ∉ P := by decide) (hs : swapsWith e (some (.Name x pos')) pos.line X.env = pure false := by rfl) (hf : X.fn x = true ∨ X.env.scope.names.lookup x = some .local := by first | exact .inl rfl | exact .inr rfl | assumption) :
    PS X (.Assign [.Name x pos'] e pos) (tS C P (sSet i m)) := by
  refine ⟨fun pins s σ H D I ⟨F, ρ, sr, p⟩ => (ps_set hN hi hx he hs hf).run pins s σ H D I ⟨F, ρ, sr, ?_⟩⟩
  exact PostS.set p (by rw [I.len]; exact (List.getElem?_eq_some_iff.mp hi).1) hP
end
end
end Eg
namespace Eg
open PySem L2 PySem.W PySem.SeqAt
section
variable [Tbs] {X : Cx} {C : Ct} {e a b c o tg iter : Expr} {es : List Expr} {pos apos cpos pos' : Pos} {P : List Nat} {σ σ1 : St} {ρ ρ1 : Rho} {F H F1 H1 : Hp} {D : Ends} {body : List Stmt}
def WalkD (K : Kw) (F : Hp) (J : It) (xs : List PyData) : Prop := ∀ F2 H2 (i : Nat), Same F F2 → Same F2 H2 → (xs.length ≤ i → J.stop i H2) ∧ ∀ x, xs[i]? = some x → J.go i H2 ∧ ∀ v H3, J.yld i H2 v H3 → ∃ F3, Alloc K F2 H2 F3 H3 v (.sh x)
def tI (C : Ct) (m : M (List PyData)) : TI := fun σ H R => ∃ F ρ, SR C.K F H σ ρ ∧ PostE (β := It) C (fun F' _ _ _ _ _ J xs => WalkD C.K F' J xs) σ ρ F H R (m ρ)
theorem stb_I {K : Kw} : Stb (β := It) (fun F' _ _ _ _ _ J xs => WalkD K F' J xs) := fun _ _ _ _ _ _ _ _ _ _ _ _ _ r => r
def seqItems : PyData → M (List PyData)
  | .list ds => M.ret ds
  | .tuple ds => M.ret ds
  | _ => M.bad
theorem pi_seq {l : Expr} {tl : TE} (hl : PE X l tl) : PI X tg l (fun σ H R => tl σ H fun x H1 => ∃ a, x = .ref a ∧ (((∃ xs, SqL X.K H1 a xs) ∧ R (Itl X.K a) H1) ∨ ((∃ xs, SqT X.K H1 a xs) ∧ R (Itt X.K a) H1))) := by
  refine ⟨fun pins s σ H R I h => thn (hl.run pins s σ H _ I h) fun v s1 ⟨x, H1, I1, r1, a, ex, q⟩ => ?_⟩
  subst ex
  cases r1
  have fp : ∀ b ∈ [s1.heap.objs.size], FpOk X pins H1 b := fun b hb => by
    have eb : b = s1.heap.objs.size := by simpa using hb
    subst eb
    exact I1.fpOk (Nat.le_refl _) (I1.hok.fresh (Nat.le_refl _))
  rcases q with ⟨⟨xs, hq⟩, q⟩ | ⟨⟨xs, hq⟩, q⟩
  · obtain ⟨its, rv, pl, hz⟩ := I1.list hq
    exact wpAny_pyIter_list pl.isList ⟨_, [_], _, _, H1, rfl, I1.kept (t' := s1.toks) fun b o e => Heap.get?_push_of_some _ e, turn_list a _, ⟨_, Heap.get?_push_size _ rfl, rfl, rfl⟩, fp, q⟩
  · obtain ⟨its, rv, pl, hz⟩ := I1.tuple hq
    exact wpAny_pyIter_tuple (show s1.heap.IsTuple a its.toArray from pl) ⟨_, [_], _, _, H1, rfl, I1.kept (t' := s1.toks) fun b o e => Heap.get?_push_of_some _ e, turn_tuple a _, ⟨_, Heap.get?_push_size _ rfl, rfl, rfl⟩, fp, q⟩
theorem _root_.L2.PI.imp {t t' : TI} (h : PI X tg iter t) (i : ∀ σ H R, t' σ H R → t σ H R) : PI X tg iter t' := ⟨fun pins s σ H R I q => h.run pins s σ H R I (i _ _ _ q)⟩
theorem walk_list {K : Kw} {a : Addr} {vs : List V} {ds : List PyData} (h : F a = some (.lst vs)) (hd : DVs K F vs ds) : WalkD K F (Itl K a) ds := fun F2 H2 i s1 s2 => by
  have h2 : SqL K H2 a vs := SqL.of (s2 _ _ (s1 _ _ h))
  refine ⟨fun hl => ⟨vs, h2, by rw [hd.len]; exact hl⟩, fun x hx => ?_⟩
  obtain ⟨v, ev, dv⟩ := hd.get hx
  refine ⟨⟨vs, v, h2, ev⟩, fun w H3 y => ?_⟩
  obtain ⟨e1, y⟩ := y
  subst e1
  have := y vs h2
  rw [ev] at this; cases this
  exact ⟨F2, .asis (DV.mono s1 dv)⟩
theorem walk_tup {K : Kw} {a : Addr} {vs : List V} {ds : List PyData} (h : SqT K F a vs) (hd : DVs K F vs ds) : WalkD K F (Itt K a) ds := fun F2 H2 i s1 s2 => by
  have h2 : SqT K H2 a vs := s2.sqT (s1.sqT h)
  refine ⟨fun hl => ⟨vs, h2, by rw [hd.len]; exact hl⟩, fun x hx => ?_⟩
  obtain ⟨v, ev, dv⟩ := hd.get hx
  refine ⟨⟨vs, v, h2, ev⟩, fun w H3 y => ?_⟩
  obtain ⟨e1, y⟩ := y
  subst e1
  have := y vs h2
  rw [ev] at this; cases this
  exact ⟨F2, .asis (DV.mono s1 dv)⟩
theorem i_seq {m : M PyData} (h : PE X iter (tD C m)) (hK : X.KW = C.K := by rfl) : PI X tg iter (tI C (m.bind seqItems)) :=
  (pi_seq h).imp fun σ H R ⟨F, ρ, sr, p⟩ => ⟨F, ρ, sr, p.part fun d ρ1 F1 H1 x e1 q1 g1 s1 r1 => by
    have q1 := q1.on stb_I g1
    rw [show X.K = C.K.fr from congrArg Kw.fr hK]
    cases r1 with
    | @lst a vs ds h1 h2 => exact ⟨a, rfl, .inl ⟨⟨vs, SqL.of (s1.sub _ _ h1)⟩, q1 F1 H1 _ Grow.refl s1 (walk_list h1 h2)⟩⟩
    | @tup a vs ds h1 h2 => exact ⟨a, rfl, .inr ⟨⟨vs, s1.sub.sqT h1⟩, q1 F1 H1 _ Grow.refl s1 (walk_tup h1 h2)⟩⟩
    | _ => exact q1.elim⟩
def rngD (lo : Int) (n : Nat) : List PyData := (List.range n).map fun (k : Nat) => .int (lo + (k : Int))
theorem walk_rng {K : Kw} {lo : Int} {n : Nat} : WalkD K F (Itr lo n) (rngD lo n) := fun F2 H2 i s1 s2 => by
  have hl : (rngD lo n).length = n := by simp [rngD]
  refine ⟨fun h => by rw [hl] at h; exact h, fun x hx => ?_⟩
  have hi : i < n := by
    have := (List.getElem?_eq_some_iff.mp hx).1
    rw [hl] at this; exact this
  refine ⟨hi, fun v H3 ⟨e1, e2⟩ => ?_⟩
  subst e1 e2
  have ex : x = .int (lo + (i : Int)) := by
    simp [rngD, hi] at hx
    exact hx.symm
  subst ex
  exact ⟨F2, .asis (.int _)⟩
def rng1 : List PyData → Option (List PyData)
  | [.int j] => if -(2 ^ 62) ≤ j ∧ j < 2 ^ 62 then some (rngD 0 j.toNat) else none
  | _ => none
def rng2 : List PyData → Option (List PyData)
  | [.int i, .int j] => if -(2 ^ 62) ≤ i ∧ i < 2 ^ 62 ∧ -(2 ^ 62) ≤ j ∧ j < 2 ^ 62 then some (rngD i (j - i).toNat) else none
  | _ => none
theorem many' {γ β : Type} {ms : M (List Arg)} {g : List PyData → Option γ} {RR : Hp → Hp → St → Rho → Rho → Hp → β → γ → Prop} {Q : β → Hp → Prop} {R : List V → Hp → Prop}
    (sr : SR C.K F H σ ρ) (st : Stb RR) (p : PostE C RR σ ρ F H Q (mL g ms ρ))
    (k : ∀ xs ds d ρ2 F2 H2, SR C.K F2 H2 σ ρ2 → Vws C.K F2 H2 xs ds → g ds = some d → PostE C RR σ ρ2 F2 H2 Q (.ok d ρ2) → R xs H2) : tL C ms σ H R :=
  ⟨F, ρ, sr, p.part fun as ρ1 F1 H1 xs e1 q1 g1 s1 r1 => by
    have q1 := q1.on st g1
    cases ex : resL ρ1 as with
    | none => simp only [M.bind, M.get, ex] at q1; exact q1.elim
    | some ds =>
      cases ed : g ds with
      | none => simp only [M.bind, M.get, ex, Option.bind_eq_bind, Option.bind_some, ed] at q1; exact q1.elim
      | some d =>
        simp only [M.bind, M.get, ex, Option.bind_eq_bind, Option.bind_some, ed] at q1
        exact k xs ds d ρ1 F1 H1 s1 (rAs.views s1 r1 ex) ed q1⟩
theorem i_range1 {p : Pos} {ms : M (List Arg)} (hg : Gl X "range") (hm : X.mg "range" = none) (ha : PA X [a] (tL C ms)) (hs : starEach [a] X.env = [(false, eval a X.env)] := by rfl) : PI X tg (.Call (.Name "range" p) [a] [] pos) (tI C (mL rng1 ms)) :=
  (pi_range1 hg hm ha hs).imp fun σ H R ⟨F, ρ, sr, q⟩ => many' sr stb_I q fun xs ds d ρ2 F2 H2 s2 vw e q => by
    match ds, vw, e with
    | [.int j], .cons h .nil, e =>
      simp only [rng1] at e
      split at e <;> cases e
      rename_i hz
      cases h
      exact ⟨j, rfl, hz.1, hz.2, q F2 H2 _ Grow.refl s2 walk_rng⟩
theorem i_range2 {p : Pos} {ms : M (List Arg)} (hg : Gl X "range") (hm : X.mg "range" = none) (ha : PA X [a, b] (tL C ms)) (hs : starEach [a, b] X.env = [(false, eval a X.env), (false, eval b X.env)] := by rfl) (hs2 : starEach [b] X.env = [(false, eval b X.env)] := by rfl) : PI X tg (.Call (.Name "range" p) [a, b] [] pos) (tI C (mL rng2 ms)) :=
  (pi_range2 hg hm ha hs hs2).imp fun σ H R ⟨F, ρ, sr, q⟩ => many' sr stb_I q fun xs ds d ρ2 F2 H2 s2 vw e q => by
    match ds, vw, e with
    | [.int i, .int j], .cons h (.cons h' .nil), e =>
      simp only [rng2] at e
      split at e <;> cases e
      rename_i hz
      cases h; cases h'
      exact ⟨i, j, rfl, hz, q F2 H2 _ Grow.refl s2 walk_rng⟩
abbrev Tgt := PyData → Rho → Option Rho
def TgOk (C : Ct) (P : List Nat) (n : Nat) (g : TG) (t : Tgt) : Prop := ∀ (v : V) (d : PyData) (σ : St) (ρ ρ' : Rho) (F H : Hp) (Q : St → Hp → Prop), σ.length = n → SR C.K F H σ ρ → DV C.K F v d → t d ρ = some ρ' →
  (∀ σ', SR C.K F H σ' ρ' → (∀ b, own σ' ρ' b → own σ ρ b) → Pres σ σ' P → Q σ' H) → g v σ H Q
def tName (i : Nat) : Tgt := fun d ρ => some (ρ.set i (some (.sh d)))
theorem g_name {i n : Nat} (hi : i < n := by decide) (hP : i ∉ P := by decide) : TgOk C P n (gName i) (tName i) := fun v d σ ρ ρ' F H Q hn sr dv e q => by
  cases e
  have hi' : i < σ.length := by rw [hn]; exact hi
  refine q _ (sr.store (o := .sh d) hi' dv fun z => by cases z) (fun b hb => ?_) ⟨by rw [List.length_set], fun p hp => List.getElem?_set_ne fun z => hP (by rw [z]; exact hp)⟩
  rcases own.store hi' hb with z | ⟨z, _⟩
  · exact z
  · cases z
def tTup (ts : List Tgt) : Tgt := fun d ρ => match d with
  | .tuple ds => go ts ds ρ
  | _ => none
where go : List Tgt → List PyData → Rho → Option Rho
  | [], [], ρ => some ρ
  | t :: ts, d :: ds, ρ => (t d ρ).bind fun ρ' => go ts ds ρ'
  | _, _, _ => none
inductive TgsOk (C : Ct) (P : List Nat) (n : Nat) : TGs → List Tgt → Prop
  | nil : TgsOk C P n gNil []
  | cons {g : TG} {u : TGs} {t : Tgt} {ts : List Tgt} : TgOk C P n g t → TgsOk C P n u ts → TgsOk C P n (gCons g u) (t :: ts)
theorem tgs_run {n : Nat} : ∀ {u : TGs} {ts : List Tgt}, TgsOk C P n u ts → ∀ (vs : List V) (ds : List PyData) (σ : St) (ρ ρ' : Rho) (F H : Hp) (Q : St → Hp → Prop), σ.length = n → SR C.K F H σ ρ → DVs C.K F vs ds → tTup.go ts ds ρ = some ρ' →
    (∀ σ', SR C.K F H σ' ρ' → (∀ b, own σ' ρ' b → own σ ρ b) → Pres σ σ' P → Q σ' H) → u vs σ H Q
  | _, _, .nil, _, _, σ, ρ, ρ', F, H, Q, hn, sr, .nil, e, q => by cases e; exact ⟨rfl, q σ sr (fun _ h => h) Pres.refl⟩
  | _, _, .cons hg hu, _, _, σ, ρ, ρ', F, H, Q, hn, sr, .nil, e, q => by cases e
  | _, _, .nil, _, _, σ, ρ, ρ', F, H, Q, hn, sr, .cons _ _, e, q => by cases e
  | _, _, .cons (t := t) hg hu, _, _, σ, ρ, ρ', F, H, Q, hn, sr, .cons (v := v) (d := d) h1 h2, e, q => by
    simp only [tTup.go] at e
    cases e1 : t d ρ with
    | none => rw [e1] at e; cases e
    | some ρ1 =>
      rw [e1] at e
      refine ⟨v, _, rfl, hg v d σ ρ ρ1 F H _ hn sr h1 e1 fun σ1 s1 o1 p1 => ?_⟩
      exact tgs_run hu _ _ σ1 ρ1 ρ' F H Q (by rw [p1.1]; exact hn) s1 h2 e fun σ2 s2 o2 p2 => q σ2 s2 (fun b hb => o1 b (o2 b hb)) (p1.trans p2)
theorem g_tup {n k : Nat} {u : TGs} {ts : List Tgt} (h : TgsOk C P n u ts) (hk : ts.length = k := by rfl) : TgOk C P n (gTup C.K k u) (tTup ts) := fun v d σ ρ ρ' F H Q hn sr dv e q => by
  cases dv with
  | @tup a vs ds h1 h2 =>
    refine ⟨a, vs, rfl, sr.sub.sqT h1, ?_, tgs_run h vs ds σ ρ ρ' F H Q hn sr h2 e q⟩
    rw [h2.len, ← hk]
    have : ∀ (ts : List Tgt) (ds : List PyData) (ρ ρ' : Rho), tTup.go ts ds ρ = some ρ' → ds.length = ts.length := by
      intro ts
      induction ts with
      | nil => intro ds ρ ρ' h; cases ds with
        | nil => rfl
        | cons _ _ => cases h
      | cons t ts ih => intro ds ρ ρ' h; cases ds with
        | nil => cases h
        | cons d ds =>
          simp only [tTup.go] at h
          cases e1 : t d ρ with
          | none => rw [e1] at h; cases h
          | some ρ1 => rw [e1] at h; rw [List.length_cons, List.length_cons, ih ds ρ1 ρ' h]
    exact this ts ds ρ ρ' e
  | _ => cases e
def sLoop (t : Tgt) (body : M Out) : List PyData → M Out
  | [] => M.ret .nx
  | x :: xs => fun ρ => match t x ρ with
    | none => .bad
    | some ρ1 => (body.bind fun o => match o with
      | .nx => sLoop t body xs
      | .ct => sLoop t body xs
      | .bk => M.ret .nx
      | .rt r => M.ret (.rt r)) ρ1
def sFor (src : M (List PyData)) (t : Tgt) (body : M Out) : M Out := src.bind fun xs => sLoop t body xs
theorem s_for {g : TG} {t : Tgt} {src : M (List PyData)} {mb : M Out} {n : Nat} (hp : PassesOwn (model X.prog X.w) X.A X.env X.xe) (hc : X.calm = true) (hi : PI X tg iter (tI C src)) (hg : PG X tg g) (ht : TgOk C P n g t) (hb : PSs X body (tS C P mb)) (hN : X.N.length = n := by rfl)
    (hs : ∀ x, foldedSetIterable iter X.env x = pure x := by intro _; rfl) : PS X (.For tg iter body [] pos) (tS C P (sFor src t mb)) := by
  refine ⟨fun pins s σ H D I ⟨F, ρ, sr, p⟩ => (ps_for hp hc hi hg hb hs).run pins s σ H D I ⟨F, ρ, sr, p.part fun xs ρ1 F1 H1 J q1 g1 s1 wk => ?_⟩⟩
  have ln : σ.length = n := by rw [I.len, hN]
  refine ⟨fun i m σ' H' => m = xs.length - i ∧ i ≤ xs.length ∧ ∃ F' ρ', Same F1 F' ∧ SR C.K F' H' σ' ρ' ∧ σ'.length = n ∧ PostS C P σ' ρ' F' H' D (sLoop t mb (xs.drop i) ρ'), ⟨xs.length, by simp, Nat.zero_le _, F1, ρ1, Same.refl _, s1, ln, by rw [List.drop_zero]; exact q1⟩, ?_⟩
  rintro i m σ' H' ⟨rfl, hil, F', ρ', sf, s', ln', q'⟩
  obtain ⟨w1, w2⟩ := wk F' H' i sf s'.sub
  by_cases hlt : i < xs.length
  · obtain ⟨x, ex⟩ : ∃ x, xs[i] = x := ⟨_, rfl⟩
    obtain ⟨go, yl⟩ := w2 x (by rw [← ex]; simp [hlt])
    rw [List.drop_eq_getElem_cons hlt, ex] at q'
    simp only [sLoop] at q'
    refine .inr ⟨go, fun σ2 H2 => i + 1 ≤ xs.length ∧ ∃ F2 ρ2, Same F1 F2 ∧ SR C.K F2 H2 σ2 ρ2 ∧ σ2.length = n ∧ PostS C P σ2 ρ2 F2 H2 D (sLoop t mb (xs.drop (i + 1)) ρ2), fun σ2 H2 h2 => ⟨xs.length - (i + 1), by omega, rfl, h2⟩, fun v H2 y => ?_⟩
    obtain ⟨F2, al⟩ := yl v H2 y
    cases et : t x ρ' with
    | none => simp only [et] at q'; exact q'.elim
    | some ρ2 =>
      simp only [et] at q'
      have st : SR C.K F2 H2 σ' ρ' ∧ Grow (own σ' ρ') (own σ' ρ') F' H' F2 H2 ∧ DV C.K F2 v x := by
        cases al with
        | asis h => exact ⟨s', Grow.refl, h⟩
        | tup hp h =>
          have fp := s'.sub.free hp
          exact ⟨s'.laid hp, Grow.laid hp fp, .tup (.inl (.inl upd_same)) (h.upd fp)⟩
      obtain ⟨s2, g2, dv⟩ := st
      refine ht v x σ' ρ' ρ2 F2 H2 _ ln' s2 dv et fun σ3 s3 o3 p3 => ?_
      have g3 : Grow (own σ' ρ') (own σ3 ρ2) F' H' F2 H2 := g2.less o3
      have q3 := q'.on g3 p3
      refine ⟨F2, ρ2, s3, ?_⟩
      have ln3 : σ3.length = n := by rw [p3.1]; exact ln'
      have sf2 : Same F1 F2 := sf.trans g2.ext
      simp only [M.bind] at q3
      cases eb : mb ρ2 with
      | bad => simp only [eb] at q3; exact q3
      | ex x ρ4 => simp only [eb] at q3; exact q3
      | ok oo ρ4 =>
        simp only [eb] at q3
        cases oo with
        | nx => exact fun F4 H4 σ4 g4 s4 p4 => ⟨by omega, F4, ρ4, sf2.trans g4.ext, s4, by rw [p4.1]; exact ln3, q3.on g4 p4⟩
        | ct => exact fun F4 H4 σ4 g4 s4 p4 => ⟨by omega, F4, ρ4, sf2.trans g4.ext, s4, by rw [p4.1]; exact ln3, q3.on g4 p4⟩
        | bk => exact fun F4 H4 σ4 g4 s4 p4 => q3 F4 H4 σ4 g4 s4 p4
        | rt r => exact q3
  · have ei : i = xs.length := by omega
    subst ei
    rw [List.drop_length] at q'
    exact .inl ⟨w1 (Nat.le_refl _), q' F' H' σ' Grow.refl s' Pres.refl⟩
def sWhile (mt : M Bool) (body : M Out) : Nat → M Out
  | 0 => M.bad
  | n + 1 => mt.bind fun b => if b = true then (body.bind fun o => match o with
      | .nx => sWhile mt body n
      | .ct => sWhile mt body n
      | .bk => M.ret .nx
      | .rt r => M.ret (.rt r)) else M.ret .nx
theorem s_while {mt : M Bool} {mb : M Out} (n : Nat) (hp : PassesOwn (model X.prog X.w) X.A X.env X.xe) (hc : PT X c (tT C mt)) (hb : PSs X body (tS C P mb)) : PS X (.While c body [] pos) (tS C P (sWhile mt mb n)) :=
  (ps_while hp hc hb).imp fun D σ H ⟨F, ρ, sr, p⟩ => by
    refine ⟨fun m σ' H' => ∃ F' ρ', SR C.K F' H' σ' ρ' ∧ PostS C P σ' ρ' F' H' D (sWhile mt mb m ρ'), ⟨n, F, ρ, sr, p⟩, ?_⟩
    rintro m σ' H' ⟨F', ρ', s', q'⟩
    cases m with
    | zero => exact q'.elim
    | succ m =>
      simp only [sWhile] at q'
      refine ⟨F', ρ', s', q'.part fun k ρ1 F1 H1 x q1 g1 s1 r1 => ?_⟩
      subst r1
      cases x with
      | false => exact q1 F1 H1 σ' Grow.refl s1 Pres.refl
      | true =>
        refine ⟨fun σ2 H2 => ∃ F2 ρ2, SR C.K F2 H2 σ2 ρ2 ∧ PostS C P σ2 ρ2 F2 H2 D (sWhile mt mb m ρ2), fun σ2 H2 h2 => ⟨m, Nat.lt_succ_self _, h2⟩, F1, ρ1, s1, ?_⟩
        simp only [if_true, M.bind] at q1
        cases eb : mb ρ1 with
        | bad => simp only [eb] at q1; exact q1
        | ex x ρ4 => simp only [eb] at q1; exact q1
        | ok oo ρ4 =>
          simp only [eb] at q1
          cases oo with
          | nx => exact fun F4 H4 σ4 g4 s4 p4 => ⟨F4, ρ4, s4, q1.on g4 p4⟩
          | ct => exact fun F4 H4 σ4 g4 s4 p4 => ⟨F4, ρ4, s4, q1.on g4 p4⟩
          | bk => exact fun F4 H4 σ4 g4 s4 p4 => q1 F4 H4 σ4 g4 s4 p4
          | rt r => exact q1
def sUn (m : M PyData) (t : Tgt) : M Out := m.bind fun d => fun ρ => match t d ρ with
  | some ρ' => .ok .nx ρ'
  | none => .bad
theorem s_un {g : TG} {t : Tgt} {m : M PyData} {n : Nat} (he : PE X e (tD C m)) (hg : PG X tg g) (ht : TgOk C P n g t) (hN : X.N.length = n := by rfl) (hs : swapsWithSole [tg] e pos.line X.env = pure false := by rfl) (hw : swappedStores [tg] e X.env = pure none := by rfl)
    (h1 : (assignEach [tg] X.env).map (·.2) = [assign tg X.env] := by rfl) : PS X (.Assign [tg] e pos) (tS C P (sUn m t)) := by
  refine ⟨fun pins s σ H D I ⟨F, ρ, sr, p⟩ => (ps_asg he hg hs hw h1).run pins s σ H D I ⟨F, ρ, sr, p.part fun d ρ1 F1 H1 x q1 g1 s1 r1 => ?_⟩⟩
  cases et : t d ρ1 with
  | none => simp only [et] at q1; exact q1.elim
  | some ρ2 =>
    simp only [et] at q1
    exact ht x d σ ρ1 ρ2 F1 H1 _ (by rw [I.len, hN]) s1 r1 et fun σ3 s3 o3 p3 => q1 F1 H1 σ3 (Grow.refl.less o3) s3 p3
end
end Eg
namespace Eg
open PySem L2 PySem.W PySem.SeqAt
def wipeR (ρ : Rho) : List Nat → Rho
  | [] => ρ
  | v :: vs => (wipeR ρ vs).set v none
def restR (ρ0 ρ : Rho) : List Nat → Rho
  | [] => ρ
  | v :: vs => (restR ρ0 ρ vs).set v (ρ0[v]?.join)
theorem wipeR_len (ρ : Rho) : ∀ vs, (wipeR ρ vs).length = ρ.length
  | [] => rfl
  | v :: vs => by simp only [wipeR, List.length_set]; exact wipeR_len ρ vs
theorem restR_len (ρ0 ρ : Rho) : ∀ vs, (restR ρ0 ρ vs).length = ρ.length
  | [] => rfl
  | v :: vs => by simp only [restR, List.length_set]; exact restR_len ρ0 ρ vs
theorem wipeR_out {ρ : Rho} {j : Nat} : ∀ {vs : List Nat}, j ∉ vs → (wipeR ρ vs)[j]? = ρ[j]?
  | [], _ => rfl
  | v :: vs, h => by
    rw [List.mem_cons, not_or] at h
    simp only [wipeR]
    rw [List.getElem?_set_ne (fun z => h.1 z.symm)]
    exact wipeR_out h.2
theorem wipeR_in {ρ : Rho} {j : Nat} {o : OD} : ∀ {vs : List Nat}, j ∈ vs → (wipeR ρ vs)[j]? ≠ some (some o)
  | v :: vs, h, e => by
    simp only [wipeR] at e
    by_cases q : v = j
    · subst q
      by_cases hl : v < (wipeR ρ vs).length
      · rw [List.getElem?_set_self hl] at e; cases e
      · rw [List.getElem?_eq_none (by rw [List.length_set]; omega)] at e; cases e
    · rw [List.getElem?_set_ne q] at e
      rcases List.mem_cons.mp h with z | z
      · exact q z.symm
      · exact wipeR_in z e
theorem wipe_out {σ : St} {j : Nat} : ∀ {vs : List Nat}, j ∉ vs → (wipe σ vs)[j]? = σ[j]?
  | [], _ => rfl
  | v :: vs, h => by
    rw [List.mem_cons, not_or] at h
    simp only [wipe]
    rw [List.getElem?_set_ne (fun z => h.1 z.symm)]
    exact wipe_out h.2
theorem wipe_in {σ : St} {j : Nat} : ∀ {vs : List Nat}, j ∈ vs → (wipe σ vs)[j]? = if j < σ.length then some none else none
  | v :: vs, h => by
    simp only [wipe]
    by_cases q : v = j
    · subst q
      by_cases hl : v < σ.length
      · rw [if_pos hl, List.getElem?_set_self (by rw [wipe_length]; exact hl)]
      · rw [if_neg hl, List.getElem?_eq_none (by rw [List.length_set, wipe_length]; omega)]
    · rw [List.getElem?_set_ne q]
      rcases List.mem_cons.mp h with z | z
      · exact absurd z.symm q
      · exact wipe_in z
theorem wipe_ext {σ τ : St} {vs : List Nat} (hl : σ.length = τ.length) (h : ∀ j, j < τ.length → j ∉ vs → σ[j]? = τ[j]?) : wipe σ vs = wipe τ vs := by
  refine List.ext_getElem? fun j => ?_
  by_cases q : j ∈ vs
  · rw [wipe_in q, wipe_in q, hl]
  · rw [wipe_out q, wipe_out q]
    by_cases hj : j < τ.length
    · exact h j hj q
    · rw [List.getElem?_eq_none (by omega), List.getElem?_eq_none (by omega)]
theorem wipe_wipe (σ : St) (vs : List Nat) : wipe (wipe σ vs) vs = wipe σ vs := wipe_ext (wipe_length σ vs) fun j _ q => wipe_out q
theorem restR_out {ρ0 ρ : Rho} {j : Nat} : ∀ {vs : List Nat}, j ∉ vs → (restR ρ0 ρ vs)[j]? = ρ[j]?
  | [], _ => rfl
  | v :: vs, h => by
    rw [List.mem_cons, not_or] at h
    simp only [restR]
    rw [List.getElem?_set_ne (fun z => h.1 z.symm)]
    exact restR_out h.2
theorem restR_in {ρ0 ρ : Rho} {j : Nat} {o : OD} : ∀ {vs : List Nat}, j ∈ vs → (restR ρ0 ρ vs)[j]? = some (some o) → ρ0[j]? = some (some o)
  | v :: vs, h, e => by
    simp only [restR] at e
    by_cases q : v = j
    · subst q
      by_cases hl : v < (restR ρ0 ρ vs).length
      · rw [List.getElem?_set_self hl] at e
        have e := Option.some.inj e
        cases q2 : ρ0[v]? with
        | none => rw [q2] at e; cases e
        | some x => rw [q2] at e; exact congrArg some e
      · rw [List.getElem?_eq_none (by rw [List.length_set]; omega)] at e; cases e
    · rw [List.getElem?_set_ne q] at e
      rcases List.mem_cons.mp h with z | z
      · exact absurd z.symm q
      · exact restR_in z e
section
variable [Tbs] {K : Kw} {σ τ : St} {ρ ρ1 : Rho} {F H F1 H1 : Hp} {vs : List Nat}
theorem SR.wipes (s : SR K F H σ ρ) (vs : List Nat) : SR K F H (L2.wipe σ vs) (wipeR ρ vs) := by
  have go : ∀ {j : Nat} {o : OD}, (wipeR ρ vs)[j]? = some (some o) → ρ[j]? = some (some o) ∧ j ∉ vs := fun {j o} h => by
    by_cases q : j ∈ vs
    · exact absurd h (wipeR_in q)
    · exact ⟨by rw [← wipeR_out q]; exact h, q⟩
  refine ⟨s.sub, by rw [wipe_length, wipeR_len]; exact s.len, fun j o h => ?_, fun j k o o' a ne h1 i1 h2 i2 h3 h4 => ?_, s.tb⟩
  · obtain ⟨h1, q⟩ := go h
    obtain ⟨v, e, r⟩ := s.sl j o h1
    exact ⟨v, by rw [wipe_out q]; exact e, r⟩
  · obtain ⟨g1, q1⟩ := go h1
    obtain ⟨g2, q2⟩ := go h2
    rw [wipe_out q1] at h3
    rw [wipe_out q2] at h4
    exact s.sep j k o o' a ne g1 i1 g2 i2 h3 h4
theorem own.wipes {b : Addr} (h : own (L2.wipe σ vs) (wipeR ρ vs) b) : own σ ρ b ∧ ∃ (i : Nat) (o : OD), i ∉ vs ∧ ρ[i]? = some (some o) ∧ o.isO = true ∧ σ[i]? = some (some (V.ref b)) := by
  obtain ⟨i, o, e1, e2, e3⟩ := h
  by_cases q : i ∈ vs
  · exact absurd e1 (wipeR_in q)
  · rw [wipeR_out q] at e1
    rw [wipe_out q] at e3
    exact ⟨⟨i, o, e1, e2, e3⟩, i, o, q, e1, e2, e3⟩
theorem Grow.wide {ow ow' ow1 : Addr → Prop} (g : Grow ow ow1 F H F1 H1) (h : ∀ b, ow b → ow' b) : Grow ow' ow1 F H F1 H1 :=
  ⟨g.ext, fun b o e t n => g.keep b o e t fun z => n (h b z), fun b ps e n => g.kt b ps e fun z => n (h b z), fun b z => (g.new b z).imp id fun z => z.imp id (h b), fun b z => (g.ows b z).imp (h b) id⟩
theorem SR.rest (s : SR K F H σ ρ) (s1 : SR K F1 H1 (L2.wipe σ vs) (wipeR ρ1 vs)) (hl : ρ1.length = ρ.length) (g : Grow (own (L2.wipe σ vs) (wipeR ρ vs)) (own (L2.wipe σ vs) (wipeR ρ1 vs)) F H F1 H1) :
    SR K F1 H1 σ (restR ρ ρ1 vs) ∧ Grow (own σ ρ) (own σ (restR ρ ρ1 vs)) F H F1 H1 := by
  -- an owned thing of a wiped slot is owned by none of the others
  have lone : ∀ (j : Nat) (o : OD) (a : Addr), j ∈ vs → ρ[j]? = some (some o) → o.isO = true → σ[j]? = some (some (V.ref a)) → ¬ own (L2.wipe σ vs) (wipeR ρ vs) a := fun j o a hj e io ea z => by
    obtain ⟨_, i, o', q, e1, e2, e3⟩ := own.wipes z
    exact s.sep j i o o' a (fun w => q (w ▸ hj)) e io e1 e2 ea e3
  have old : ∀ (j : Nat) (o : OD), j ∈ vs → ρ[j]? = some (some o) → ∃ v, σ[j]? = some (some v) ∧ OR K F1 H1 v o := fun j o hj e => by
    obtain ⟨v, ev, r⟩ := s.sl j o e
    refine ⟨v, ev, r.keep g.ext fun a ha io => ?_⟩
    subst ha
    have nl := lone j o a hj e io ev
    obtain ⟨fa, u, hu⟩ := own.at s ⟨j, o, e, io, ev⟩
    refine ⟨?_, fun u' hu' nt => g.keep a u' hu' nt nl⟩
    cases q : F1 a with
    | none => rfl
    | some x =>
      rcases g.new a (by rw [q]; simp) with z | z | z
      · exact absurd fa z
      · rw [hu] at z; cases z
      · exact absurd z nl
  have cs : ∀ {j : Nat} {o : OD}, (restR ρ ρ1 vs)[j]? = some (some o) → (j ∈ vs ∧ ρ[j]? = some (some o)) ∨ (j ∉ vs ∧ (wipeR ρ1 vs)[j]? = some (some o)) := fun {j o} h => by
    by_cases q : j ∈ vs
    · exact .inl ⟨q, restR_in q h⟩
    · rw [restR_out q] at h
      exact .inr ⟨q, by rw [wipeR_out q]; exact h⟩
  have mix : ∀ (j k : Nat) (o o' : OD) (a : Addr), j ∈ vs → ρ[j]? = some (some o) → o.isO = true → k ∉ vs → (wipeR ρ1 vs)[k]? = some (some o') → o'.isO = true → σ[j]? = some (some (V.ref a)) → σ[k]? ≠ some (some (V.ref a)) := fun j k o o' a hj e io hk e' io' ea ek => by
    have z : own (L2.wipe σ vs) (wipeR ρ1 vs) a := ⟨k, o', e', io', by rw [wipe_out hk]; exact ek⟩
    obtain ⟨fa, u, hu⟩ := own.at s ⟨j, o, e, io, ea⟩
    rcases g.ows a z with y | y
    · exact lone j o a hj e io ea y
    · rw [hu] at y; cases y
  refine ⟨⟨s1.sub, by rw [restR_len, hl]; exact s.len, fun j o h => ?_, fun j k o o' a ne h1 i1 h2 i2 h3 h4 => ?_, s1.tb⟩, ⟨g.ext, fun b o e t n => g.keep b o e t fun z => n (own.wipes z).1, fun b ps e n => g.kt b ps e fun z => n (own.wipes z).1, fun b z => (g.new b z).imp id fun z => z.imp id fun z => (own.wipes z).1, fun b ⟨i, o, e1, e2, e3⟩ => ?_⟩⟩
  · rcases cs h with ⟨q, e⟩ | ⟨q, e⟩
    · exact old j o q e
    · obtain ⟨v, ev, r⟩ := s1.sl j o e
      rw [wipe_out q] at ev
      exact ⟨v, ev, r⟩
  · rcases cs h1 with ⟨q1, e1⟩ | ⟨q1, e1⟩ <;> rcases cs h2 with ⟨q2, e2⟩ | ⟨q2, e2⟩
    · exact s.sep j k o o' a ne e1 i1 e2 i2 h3 h4
    · exact mix j k o o' a q1 e1 i1 q2 e2 i2 h3 h4
    · exact mix k j o' o a q2 e2 i2 q1 e1 i1 h4 h3
    · exact s1.sep j k o o' a ne e1 i1 e2 i2 (by rw [wipe_out q1]; exact h3) (by rw [wipe_out q2]; exact h4)
  · rcases cs e1 with ⟨q, e⟩ | ⟨q, e⟩
    · exact .inl ⟨i, o, e, e2, e3⟩
    · exact (g.ows b ⟨i, o, e, e2, by rw [wipe_out q]; exact e3⟩).imp (fun z => (own.wipes z).1) id
end
def lcGo (t : Tgt) (tests : M Bool) (elt : M PyData) (vs : List Nat) : List PyData → List PyData → M (List PyData)
  | [], acc => M.ret acc
  | x :: xs, acc => fun ρ => match t x (wipeR ρ vs) with
    | none => .bad
    | some ρ1 => match tests ρ1 with
      | .ok false ρ2 => lcGo t tests elt vs xs acc ρ2
      | .ok true ρ2 => (match elt ρ2 with
        | .ok d ρ3 => if acc.length < sizeLine then lcGo t tests elt vs xs (acc ++ [d]) ρ3 else .bad
        | _ => .bad)
      | _ => .bad
def mComp (src : M (List PyData)) (t : Tgt) (tests : M Bool) (elt : M PyData) (vs : List Nat) : M OD := src.bind fun xs => fun ρ => match lcGo t tests elt vs xs [] ρ with
  | .ok acc ρ' => if ρ'.length = ρ.length then .ok (.ol acc) (restR ρ ρ' vs) else .bad
  | _ => .bad
abbrev Ct.quiet (C : Ct) : Ct := ⟨C.K, fun _ _ _ _ => False, C.XR⟩
section
variable [Tbs] {X : Cx} {C : Ct} {e elt tg iter : Expr} {ifs : List Expr} {pos : Pos}
theorem c_nil : PTs X ifs tYes → PTs X ifs (tT C (M.ret true)) := fun h => ⟨fun pins s σ H Q I ⟨F, ρ, sr, p⟩ => h.run pins s σ H Q I (p F H true Grow.refl sr rfl)⟩
theorem c_none : PTs X [] (tT C (M.ret true)) := c_nil pts_nil
theorem c_one {c : Expr} {m : M Bool} (h : PT X c (tT C m)) : PTs X [c] (tT C m) := pts_one h
def outs (n : Nat) (vs : List Nat) : List Nat := (List.range n).filter fun i => !vs.contains i
theorem mem_outs {n j : Nat} {vs : List Nat} (h : j < n) (q : j ∉ vs) : j ∈ outs n vs := by
  unfold outs
  rw [List.mem_filter]
  exact ⟨List.mem_range.mpr h, by simpa using q⟩
theorem lc_read {g : TG} {t : Tgt} {src : M (List PyData)} {mt : M Bool} {me : M PyData} {vs : List Nat} {n : Nat} {σ : St} {H : Hp} {Q : VK} (hn : σ.length = n) (ht : TgOk C.quiet (outs n vs) n g t)
    (h : tO C (mComp src t mt me vs) σ H Q) : tLc (tI C src) g (tT C.quiet mt) (tD C.quiet me) vs σ H Q := by
  obtain ⟨F, ρ, sr, p⟩ := h
  refine ⟨F, ρ, sr, p.part fun xs ρ1 F1 H1 J e1 q1 g1 s1 wk => fun D hD => ?_⟩
  have q1 := q1.on stb_O g1
  -- the whole run
  obtain ⟨accF, ρF, eF, hlF⟩ : ∃ accF ρF, lcGo t mt me vs xs [] ρ1 = .ok accF ρF ∧ ρF.length = ρ1.length := by
    cases e : lcGo t mt me vs xs [] ρ1 with
    | ok a r =>
      simp only [e] at q1
      split at q1
      · rename_i hz; exact ⟨a, r, rfl, hz⟩
      · exact q1.elim
    | _ => simp only [e] at q1; exact q1.elim
  simp only [eF, hlF, if_true] at q1
  have f1D : F1 D = none := s1.sub.free hD
  have nD1 : ¬ own (wipe σ vs) (wipeR ρ1 vs) D := fun z => by
    obtain ⟨_, u, hu⟩ := own.at (s1.wipes vs) z
    rw [hD] at hu; cases hu
  have sD : SR C.K F1 (upd H1 D (.lst [])) (wipe σ vs) (wipeR ρ1 vs) := (s1.fresh hD).wipes vs
  refine ⟨fun i m H' => m = xs.length - i ∧ i ≤ xs.length ∧ ∃ F' ρ' acc accV, SR C.K F' H' (wipe σ vs) (wipeR ρ' vs) ∧ Grow (own (wipe σ vs) (wipeR ρ1 vs)) (own (wipe σ vs) (wipeR ρ' vs)) F1 H1 F' H' ∧
    ¬ own (wipe σ vs) (wipeR ρ' vs) D ∧ F' D = none ∧ H' D = some (.lst accV) ∧ DVs C.K F' accV acc ∧ lcGo t mt me vs (xs.drop i) acc ρ' = .ok accF ρF,
    ⟨xs.length, by simp, Nat.zero_le _, F1, ρ1, [], [], sD, Grow.fresh hD, nD1, f1D, upd_same, .nil, by rw [List.drop_zero]; exact eF⟩, ?_⟩
  rintro i m H' ⟨rfl, hil, F', ρ', acc, accV, s', gw, nD, fD, eD, dv, er⟩
  obtain ⟨w1, w2⟩ := wk F' H' i gw.ext s'.sub
  by_cases hlt : i < xs.length
  · obtain ⟨x, ex⟩ : ∃ x, xs[i] = x := ⟨_, rfl⟩
    obtain ⟨go, yl⟩ := w2 x (by rw [← ex]; simp [hlt])
    rw [List.drop_eq_getElem_cons hlt, ex] at er
    simp only [lcGo] at er
    refine .inr ⟨go, fun H2 => ∃ F' ρ' acc accV, SR C.K F' H2 (wipe σ vs) (wipeR ρ' vs) ∧ Grow (own (wipe σ vs) (wipeR ρ1 vs)) (own (wipe σ vs) (wipeR ρ' vs)) F1 H1 F' H2 ∧
      ¬ own (wipe σ vs) (wipeR ρ' vs) D ∧ F' D = none ∧ H2 D = some (.lst accV) ∧ DVs C.K F' accV acc ∧ lcGo t mt me vs (xs.drop (i + 1)) acc ρ' = .ok accF ρF, fun H2 h2 => ⟨xs.length - (i + 1), by omega, rfl, by omega, h2⟩, fun v H2 y => ?_⟩
    obtain ⟨F2, al⟩ := yl v H2 y
    cases et : t x (wipeR ρ' vs) with
    | none => simp only [et] at er; cases er
    | some ρ2 =>
      simp only [et] at er
      have st : SR C.K F2 H2 (wipe σ vs) (wipeR ρ' vs) ∧ Grow (own (wipe σ vs) (wipeR ρ' vs)) (own (wipe σ vs) (wipeR ρ' vs)) F' H' F2 H2 ∧ DV C.K F2 v x ∧ F2 D = none ∧ H2 D = some (.lst accV) := by
        cases al with
        | asis h => exact ⟨s', Grow.refl, h, fD, eD⟩
        | tup hp h =>
          have fp := s'.sub.free hp
          have ne := ne_of_none eD hp
          exact ⟨s'.laid hp, Grow.laid hp fp, .tup (.inl (.inl upd_same)) (h.upd fp), by rw [upd_ne ne]; exact fD, by rw [upd_ne ne]; exact eD⟩
      obtain ⟨s2, g2, dx, fD2, eD2⟩ := st
      refine ht v x (wipe σ vs) (wipeR ρ' vs) ρ2 F2 H2 _ (by rw [wipe_length]; exact hn) s2 dx et fun σ3 s3 o3 p3 => ?_
      have ew : wipe σ3 vs = wipe σ vs := by
        rw [← wipe_wipe σ vs]
        exact wipe_ext p3.1 fun j hj q => p3.2 j (mem_outs (by rw [wipe_length, hn] at hj; exact hj) q)
      have g3 : Grow (own (wipe σ vs) (wipeR ρ' vs)) (own σ3 ρ2) F' H' F2 H2 := g2.less o3
      have nD3 : ¬ own σ3 ρ2 D := fun z => nD (o3 D z)
      refine ⟨ew, F2, ρ2, s3, ?_⟩
      -- behind the tests
      cases emt : mt ρ2 with
      | bad => simp only [emt] at er; cases er
      | ex x r => simp only [emt] at er; cases er
      | ok k ρ3 =>
        simp only [emt] at er
        intro F3 H3 k' g4 s4 ek
        subst ek
        have nD4 : ¬ own σ3 ρ3 D := fun z => (g4.ows D z).elim nD3 fun y => by rw [eD2] at y; cases y
        have fD4 : F3 D = none := by
          cases q : F3 D with
          | none => rfl
          | some u =>
            rcases g4.new D (by rw [q]; simp) with z | z | z
            · exact absurd fD2 z
            · rw [eD2] at z; cases z
            · exact absurd z nD3
        have eD4 : H3 D = some (.lst accV) := g4.keep D _ eD2 (fun _ z => by cases z) nD3
        have back : ∀ {F5 H5 : Hp} {ρ5 : Rho}, SR C.K F5 H5 σ3 ρ5 → SR C.K F5 H5 (wipe σ vs) (wipeR ρ5 vs) := fun {F5 H5 ρ5} s => by
          have := s.wipes vs
          rw [ew] at this
          exact this
        have lessW : ∀ {ρ5 : Rho} {b : Addr}, own (wipe σ vs) (wipeR ρ5 vs) b → own σ3 ρ5 b := fun {ρ5 b} z => by
          rw [← ew] at z
          exact (own.wipes z).1
        cases k' with
        | false =>
          simp only at er
          rw [if_neg Bool.false_ne_true]
          exact ⟨F3, ρ3, acc, accV, back s4, (gw.trans (g3.trans g4)).less fun b z => lessW z, fun z => nD4 (lessW z), fD4, eD4, DVs.mono (g3.trans g4).ext dv, er⟩
        | true =>
          simp only at er
          rw [if_pos rfl]
          refine ⟨F3, ρ3, s4, ?_⟩
          cases eme : me ρ3 with
          | bad => simp only [eme] at er; cases er
          | ex x r => simp only [eme] at er; cases er
          | ok d ρ5 =>
            simp only [eme] at er
            split at er
            · rename_i hz
              intro F5 H5 y5 g5 s5 r5
              have nD5 : ¬ own σ3 ρ5 D := fun z => (g5.ows D z).elim nD4 fun y => by rw [eD4] at y; cases y
              have fD5 : F5 D = none := by
                cases q : F5 D with
                | none => rfl
                | some u =>
                  rcases g5.new D (by rw [q]; simp) with z | z | z
                  · exact absurd fD4 z
                  · rw [eD4] at z; cases z
                  · exact absurd z nD4
              have eD5 : H5 D = some (.lst accV) := g5.keep D _ eD4 (fun _ z => by cases z) nD4
              have gl := g3.trans (g4.trans g5)
              have s6 : SR C.K F5 (upd H5 D (.lst (accV ++ [y5]))) σ3 ρ5 := s5.on (Same.refl _) (fun b u q => by rw [upd_ne (ne_of_none q fD5)]; exact s5.sub b u q) (s5.tb.wr eD5 (fun _ z => by cases z)) fun a ha => by
                obtain ⟨fa, u, hu⟩ := own.at s5 ha
                exact ⟨fa, fun u' q _ => by rw [upd_ne (fun z => nD5 (by rw [← z]; exact ha))]; exact q⟩
              refine ⟨accV, eD5, by rw [dv.len]; exact hz, F5, ρ5, acc ++ [d], accV ++ [y5], back s6, ?_, fun z => nD5 (lessW z), fD5, upd_same, (DVs.mono gl.ext dv).append (.cons r5 .nil), er⟩
              have gall := gw.trans gl
              refine ⟨gall.ext, fun b o q t n => ?_, fun b ps q n => ?_, gall.new, fun b z => gall.ows b (lessW z)⟩
              · rw [upd_ne (ne_of_none q hD)]
                exact gall.keep b o q t n
              · rw [upd_ne (ne_of_none q hD)]
                exact gall.kt b ps q n
            · cases er
  · have ei : i = xs.length := by omega
    subst ei
    rw [List.drop_length] at er
    simp only [lcGo, M.ret] at er
    cases er
    obtain ⟨sf, gf⟩ := s1.rest s' hlF gw
    refine .inl ⟨w1 (Nat.le_refl _), q1 F' H' (.ref D) gf sf ⟨⟨D, accV, rfl, fD, eD, dv⟩, fun _ a ea => ?_⟩⟩
    cases ea
    refine ⟨fun z => ?_, .inl hD⟩
    rcases gf.ows D z with y | y
    · obtain ⟨_, u, hu⟩ := own.at s1 y
      rw [hD] at hu; cases hu
    · -- new and a slot's own: then one of the block's, which none is
      obtain ⟨j, o, e1, e2, e3⟩ := z
      by_cases q : j ∈ vs
      · obtain ⟨_, u, hu⟩ := own.at s1 ⟨j, o, restR_in q e1, e2, e3⟩
        rw [hD] at hu; cases hu
      · rw [restR_out q] at e1
        exact nD ⟨j, o, by rw [wipeR_out q]; exact e1, e2, by rw [wipe_out q]; exact e3⟩
theorem o_comp {g : TG} {t : Tgt} {src : M (List PyData)} {mt : M Bool} {me : M PyData} {n : Nat} {scope : Scope} {own : List (Str × Nat)} (hc : X.calm = true) (hN : X.N.Nodup) (hi : PI X tg iter (tI C src)) (ok : BlkOk X.N X.env.scope scope own)
    (hg : ∀ (s : Shared) (H : Hp) (D : Addr) (cl : List (Str × Addr)) (fp : List Addr), PG (X.blk s H scope (compEnvC scope cl D X.env) fp) tg g) (htg : TgOk C.quiet (outs n (own.map (·.2))) n g t)
    (ht : ∀ (s : Shared) (H : Hp) (D : Addr) (cl : List (Str × Addr)) (fp : List Addr), PTs (X.blk s H scope (compEnvC scope cl D X.env) fp) ifs (tT C.quiet mt))
    (he : ∀ (s : Shared) (H : Hp) (D : Addr) (cl : List (Str × Addr)) (fp : List Addr), PE (X.blk s H scope (compEnvC scope cl D X.env) fp) elt (tD C.quiet me)) (hL : X.N.length = n := by rfl) (hs : ∀ x, foldedSetIterable iter X.env x = pure x := by intro _; rfl) :
    PE X (.ListComp elt [⟨tg, iter, ifs, 0⟩] scope pos) (tO C (mComp src t mt me (own.map (·.2)))) :=
  ⟨fun pins s σ H Q I q => (pe_lc hc hN hi ok hg ht he hs).run pins s σ H Q I (lc_read (by rw [I.len, hL]) htg q)⟩
end
end Eg
namespace Eg
open PySem L2 PySem.W PySem.SeqAt
open PyProof.Rows (envOfC)
structure FnG (P : Program) (w : World) (K : PySem.W.Frag) (mg : Str → Option Value) (base : Heap) (CX : CXT) (k : Nat) (f : Addr) (fd : FuncData) (ps : List Str) (sp : Sp) : Prop where
  len : ∀ vs H Q E, sp vs H Q E → ps.length = vs.length
  run : ∀ (A : Around) (outer : List Env) (s : Shared) (H : Hp) (args : Args) (us : List Value) (vs : List V) (Q : VK) (E : XK), A.guards = some [] → Room k A → Env0 P w K mg base A outer s H → BindsTo s fd args (ps.zip us) → Vals vs us →
    sp vs H Q E → codeAny (model P w) A (.call (.ref f) args) (CR CX outer P w H s Q E) s
section
variable {P : Program} {w : World} {K : PySem.W.Frag} {mg : Str → Option Value} {base : Heap} {CX : CXT} {k : Nat}
theorem FnG.mono {j : Nat} {f : Addr} {fd : FuncData} {ps : List Str} {sp : Sp} (F : FnG P w K mg base CX j f fd ps sp) (h : j ≤ k) : FnG P w K mg base CX k f fd ps sp :=
  ⟨F.len, fun A outer s H args us vs Q E g r => F.run A outer s H args us vs Q E g (r.mono h)⟩
theorem fnG_of {x qual : Str} {st : Stmt} {f : Addr} {fd : FuncData} {N ps : List Str} {sp : Sp} (F : Fun K x qual st f fd) (S : FnScope N ps (defScope st)) (hlen : ∀ vs H Q E, sp vs H Q E → ps.length = vs.length)
    (hb : ∀ (cdv : Value) (A : Around) (outer : List Env) (s : Shared) (H : Hp) (vs : List V) (Q : VK) (E : XK), A.guards = some [] → Room k (A.deeper (envOfC qual (defScope st) s.heap.objs.size f cdv)) → sp vs H Q E →
      ∃ t, PSs (cxOf CX P w K mg base N qual (defScope st) f cdv A outer s H E) (defBody st) t ∧ t { nx := fun _ H' => Q .non H', rt := Q } (start N vs) H) : FnG P w K mg base CX (k + 1) f fd ps sp := by
  obtain ⟨oc, od, kV, doc, pm, an, cdv, ct, osl, rfl, lk, hcd⟩ := F.ex
  refine ⟨hlen, fun A outer s H args us vs Q E hg hr e0 bd rv h => ?_⟩
  have hl := (hlen vs H Q E h).symm
  have inK : K.In s.heap := e0.mod.kin.keeps fun b o e => (e0.bs b o e).1
  have par : ∀ y ∈ ps.zip us, (defScope st).names.lookup y.1 = some .local ∨ ((defScope st).names.lookup y.1 = some .cell ∧ ((cellsFrom (s.heap.objs.size + 1) (defScope st).names []).lookup y.1).isSome = true) := fun y hy =>
    (S.par y.1 (List.of_mem_zip (a := y.1) (b := y.2) hy).1).imp id fun q => ⟨q, PySem.W.cellsFrom_some _ _ _ (.inl q)⟩
  refine codeAny_call_function hr.depth (inK _ _ lk) rfl S.co S.gen rfl (PySem.W.codeRec_of inK hcd) (bd _ _ _ _ (wpAny_newFunctionEnv_cells S.kind par fun env he s1 x => ?_))
  subst he
  refine ⟨(e0.mod.nolimit.keeps fun b o e => (e0.bs b o e).1).keeps x.toInCall.keep, codeAny_func ?_⟩
  obtain ⟨t, ht, hq⟩ := hb cdv A outer s H vs Q E hg (hr.deeper _) h
  have I : Inv (cxOf CX P w K mg base N qual (defScope st) f cdv A outer s H E) [] (start N vs) H s1 := inv_start S hr.hd e0 hl rv x
  refine wpAny_mono (ht.run [] s1 _ H _ I hq) (fun fl s' q => ?_) fun _ _ q => q
  match fl, q with
  | .ret u, ⟨v, σ', H', J, r, q⟩ => exact ⟨v, H', J.os, J.bare, J.base, J.hok, r, q⟩
  | .next, ⟨σ', H', J, q⟩ => exact ⟨.non, H', J.os, J.bare, J.base, J.hok, rfl, q⟩
  | .brk, ⟨_, _, _, q⟩ => exact q.elim
  | .cont, ⟨_, _, _, q⟩ => exact q.elim
end
section
variable [Tbs] {X : Cx} {C : Ct} {e a b : Expr} {es : List Expr} {pos p : Pos} {CX : CXT} {k : Nat} {f : Addr} {fd : FuncData} {ps : List Str} {sp : Sp} {x : Str}
theorem run_G {pins : List (Addr × Obj)} {σ : St} {H : Hp} {s : Shared} {Q : VK} {us : List Value} {vs : List V} {ds : List Value} {E : XK} (F : FnG X.prog X.w X.K X.mg X.base CX k f fd ps sp) (hg : X.A.guards = some []) (hr : Room k X.A) (hb : Binds X.K fd ps ds) (hx : PassesAt CX X σ E)
    (I : Inv X pins σ H s) (r : Vals vs (us ++ ds)) (h : sp vs H Q E) : wpAny (model X.prog X.w) X.A (call (.ref f) us) (EP X pins σ Q) X.xe s := by
  have hl : (us ++ ds).length = ps.length := by rw [← r.length]; exact (F.len _ _ _ _ h).symm
  refine wpAny_call (codeAny_mono (F.run X.A X.stack s H ⟨us, []⟩ (us ++ ds) vs Q E hg hr I.env0 (hb s us I.kIn hl) r h) fun res s' q => ?_)
  match res, q with
  | .error e, q => exact hx pins H s e s' I q
  | .ok (.ret u), q => exact I.after q
abbrev Fn := M OD
def spI (K : PySem.W.Frag) (w : World) (mg : Str → Option Value) (XR : Hp → Hp → Value → Option Addr → Xc → Prop) (n : Nat) (m : Fn) : Sp := fun vs H Q E => vs.length = n ∧ ∃ (F : Hp) (os : List OD), SR ⟨K, w, mg, none, none⟩ F H (vs.map some) (os.map some) ∧ PostE ⟨⟨K, w, mg, none, none⟩, fun cls d _ H' => E cls d H', XR⟩ (rO ⟨K, w, mg, none, none⟩) (vs.map some) (os.map some) F H Q (m (os.map some))
def keepIo (io : List Bool) (ρ : Rho) : Rho := List.zipWith (fun b o => if b = true then o else none) io ρ
def fnM (n : Nat) (io : List Bool) (body : M Out) : Fn := fun ρ => match body (ρ ++ List.replicate n none) with
  | .ok (.rt r) ρ' => .ok r (keepIo io ρ')
  | .ok .nx ρ' => .ok (.sh .none) (keepIo io ρ')
  | .ex x ρ' => .ex x (keepIo io ρ')
  | _ => .bad
def ioIx (io : List Bool) : List Nat := (List.range io.length).filter fun i => io.getD i false
theorem keepIo_at {io : List Bool} {ρ : Rho} {j : Nat} {o : OD} (h : (keepIo io ρ)[j]? = some (some o)) : ρ[j]? = some (some o) ∧ j ∈ ioIx io ∧ j < io.length := by
  unfold keepIo at h
  rw [List.getElem?_zipWith] at h
  cases e1 : io[j]? with
  | none => rw [e1] at h; cases h
  | some b =>
    cases e2 : ρ[j]? with
    | none => rw [e1, e2] at h; cases h
    | some x =>
      rw [e1, e2] at h
      cases b with
      | false => cases h
      | true =>
        have hl : j < io.length := (List.getElem?_eq_some_iff.mp e1).1
        refine ⟨by simpa using h, ?_, hl⟩
        unfold ioIx
        rw [List.mem_filter]
        exact ⟨List.mem_range.mpr hl, by simp [List.getD, e1]⟩
theorem SR.start {K : Kw} {F H : Hp} {vs : List V} {os : List OD} (s : SR K F H (vs.map some) (os.map some)) (m : Nat) : SR K F H (vs.map some ++ List.replicate m none) (os.map some ++ List.replicate m none) ∧
    ∀ b, own (vs.map some ++ List.replicate m none) (os.map some ++ List.replicate m none) b → own (vs.map some) (os.map some) b := by
  have hl : os.length = vs.length := by have := s.len; simpa using this
  have lo : ∀ {j : Nat} {o : OD}, (os.map some ++ List.replicate m (none : Option OD))[j]? = some (some o) → j < os.length ∧ (os.map some)[j]? = some (some o) := fun {j o} h => by
    by_cases q : j < os.length
    · rw [List.getElem?_append_left (by simpa using q)] at h; exact ⟨q, h⟩
    · rw [List.getElem?_append_right (by simpa using Nat.le_of_not_lt q)] at h
      rw [List.getElem?_replicate] at h
      split at h <;> cases h
  have ro : ∀ {j : Nat}, j < os.length → (vs.map some ++ List.replicate m (none : Option V))[j]? = (vs.map some)[j]? := fun {j} q => List.getElem?_append_left (by simpa [← hl] using q)
  refine ⟨⟨s.sub, by simp [hl], fun j o h => ?_, fun j k o o' a ne h1 i1 h2 i2 h3 h4 => ?_, s.tb⟩, fun b ⟨j, o, e1, e2, e3⟩ => ?_⟩
  · obtain ⟨q, e⟩ := lo h
    rw [ro q]
    exact s.sl j o e
  · obtain ⟨q1, e1⟩ := lo h1
    obtain ⟨q2, e2⟩ := lo h2
    rw [ro q1] at h3
    rw [ro q2] at h4
    exact s.sep j k o o' a ne e1 i1 e2 i2 h3 h4
  · obtain ⟨q, e⟩ := lo e1
    rw [ro q] at e3
    exact ⟨j, o, e, e2, e3⟩
theorem SR.finish {K : Kw} {F H F' H' : Hp} {vs : List V} {os : List OD} {m : Nat} {io : List Bool} {σ' : St} {ρ' : Rho} (hn : vs.length = io.length) (s : SR K F H (vs.map some) (os.map some)) (s' : SR K F' H' σ' ρ')
    (g : Grow (own (vs.map some ++ List.replicate m none) (os.map some ++ List.replicate m none)) (own σ' ρ') F H F' H') (pr : Pres (vs.map some ++ List.replicate m none) σ' (ioIx io)) :
    SR K F' H' (vs.map some) (keepIo io ρ') ∧ Grow (own (vs.map some) (os.map some)) (own (vs.map some) (keepIo io ρ')) F H F' H' ∧ ∀ b, own (vs.map some) (keepIo io ρ') b → own σ' ρ' b := by
  have at' : ∀ {j : Nat}, j ∈ ioIx io → σ'[j]? = (vs.map some)[j]? := fun {j} h => by
    rw [pr.2 j h]
    have : j < io.length := List.mem_range.mp (List.mem_filter.mp h).1
    exact List.getElem?_append_left (by simpa [hn] using this)
  have ow : ∀ b, own (vs.map some) (keepIo io ρ') b → own σ' ρ' b := fun b ⟨j, o, e1, e2, e3⟩ => by
    obtain ⟨k1, k2, _⟩ := keepIo_at e1
    exact ⟨j, o, k1, e2, by rw [at' k2]; exact e3⟩
  have hlen : σ'.length = vs.length + m := by rw [pr.1]; simp
  refine ⟨⟨s'.sub, ?_, fun j o h => ?_, fun j k o o' a ne h1 i1 h2 i2 h3 h4 => ?_, s'.tb⟩, ((g.wide (s.start m).2).less ow), ow⟩
  · unfold keepIo
    rw [List.length_zipWith, s'.len, hlen, List.length_map, hn]
    omega
  · obtain ⟨k1, k2, _⟩ := keepIo_at h
    obtain ⟨v, e, r⟩ := s'.sl j o k1
    exact ⟨v, by rw [← at' k2]; exact e, r⟩
  · obtain ⟨k1, k2, _⟩ := keepIo_at h1
    obtain ⟨l1, l2, _⟩ := keepIo_at h2
    exact s'.sep j k o o' a ne k1 i1 l1 i2 (by rw [at' k2]; exact h3) (by rw [at' l2]; exact h4)
section
variable {P : Program} {w : World} {K : PySem.W.Frag} {mg : Str → Option Value} {base : Heap} {k : Nat} {XR : Hp → Hp → Value → Option Addr → Xc → Prop}
theorem okI {x qual : Str} {st : Stmt} {f : Addr} {fd : FuncData} {N ps : List Str} {body : M Out} (io : List Bool) (F : Fun K x qual st f fd) (S : FnScope N ps (defScope st)) (hps : ps.length = io.length) (hN : io.length ≤ N.length)
    (hb : ∀ (cdv : Value) (A : Around) (outer : List Env) (s : Shared) (H : Hp) (E : XK), A.guards = some [] → Room k (A.deeper (envOfC qual (defScope st) s.heap.objs.size f cdv)) →
      PSs (cxOf (L2.CX P w) P w K mg base N qual (defScope st) f cdv A outer s H E) (defBody st) (tS ⟨⟨K, w, mg, none, none⟩, fun cls d _ H' => E cls d H', XR⟩ (ioIx io) body)) :
    FnG P w K mg base (L2.CX P w) (k + 1) f fd ps (spI K w mg XR io.length (fnM (N.length - io.length) io body)) := by
  refine fnG_of F S (fun vs H Q E h => (h.1.trans hps.symm).symm) fun cdv A outer s H vs Q E hg hr h => ⟨_, hb cdv A outer s H E hg hr, ?_⟩
  obtain ⟨hn, F0, os, sr, p⟩ := h
  have est : L2.start N vs = vs.map some ++ List.replicate (N.length - io.length) none := by unfold L2.start; rw [hn]
  have s0 := sr.start (N.length - io.length)
  rw [est]
  refine ⟨F0, os.map some ++ List.replicate (N.length - io.length) none, s0.1, ?_⟩
  unfold fnM at p
  cases e : body (os.map some ++ List.replicate (N.length - io.length) none) with
  | bad => rw [e] at p; exact p
  | ex x ρ' =>
    rw [e] at p
    intro F' H' σ' cls d g s' pr xr
    obtain ⟨a1, a2, a3⟩ := sr.finish hn s' g pr
    exact p F' H' cls d a2 a1 xr
  | ok o ρ' =>
    rw [e] at p
    cases o with
    | nx =>
      intro F' H' σ' g s' pr
      obtain ⟨a1, a2, a3⟩ := sr.finish hn s' g pr
      exact p F' H' .non a2 a1 ⟨.non, fun z => by cases z⟩
    | rt r =>
      intro F' H' σ' v g s' pr ro nn
      obtain ⟨a1, a2, a3⟩ := sr.finish hn s' g pr
      exact p F' H' v a2 a1 ⟨ro, fun io a ea => ⟨fun z => (nn io a ea).1 (a3 a z), (nn io a ea).2.imp id (s0.2 a)⟩⟩
    | bk => exact p.elim
    | ct => exact p.elim
end
def argO (ρ : Rho) : Arg → Option OD
  | .dat d => some (.sh d)
  | .slot i => (ρ[i]?).join
  | .fr kvs => some (.sn kvs)
def argS (ρ : Rho) (a : Arg) : Option OD := match argO ρ a with
  | some (.sh d) => some (.sh d)
  | some (.sc ns) => some (.sc ns)
  | some (.sn kvs) => some (.sn kvs)
  | some (.sd kvs) => some (.sd kvs)
  | _ => none
def argsS (ρ : Rho) : List Arg → Option (List OD)
  | [] => some []
  | a :: as => do (← argS ρ a) :: (← argsS ρ as)
theorem argO_at {K : Kw} {F H : Hp} {σ : St} {ρ : Rho} {v : V} {a : Arg} {o : OD} {ρ0 : Rho} {H0 : Hp} (s : SR K F H σ ρ) (h : rA K F H σ ρ ρ0 H0 v a) (e : argO ρ a = some o) : OR K F H v o := by
  cases a with
  | dat d => cases e; exact h
  | fr kvs => cases e; exact h
  | slot i =>
    simp only [argO] at e
    cases q : ρ[i]? with
    | none => rw [q] at e; cases e
    | some x =>
      rw [q] at e
      have ex : x = some o := e
      subst ex
      obtain ⟨w, ew, r⟩ := s.sl i o q
      have h : σ[i]? = some (some v) := h
      rw [h] at ew; cases ew
      exact r
theorem argsS_at {K : Kw} {F H : Hp} {σ : St} {ρ : Rho} (s : SR K F H σ ρ) : ∀ {vs : List V} {as : List Arg} {os : List OD}, rAs K F σ vs as → argsS ρ as = some os → os.length = vs.length ∧ ∀ (j : Nat) (o : OD), os[j]? = some o → o.isO = false ∧ ∃ v, vs[j]? = some v ∧ OR K F H v o := fun {vs as} => by
  induction vs generalizing as with
  | nil => intro os r e; cases r; cases e; exact ⟨rfl, fun j o h => by simp at h⟩
  | cons v vs ih =>
    intro os r e
    have hd : ∃ a as', as = a :: as' ∧ rA K F H σ ρ ρ H v a ∧ rAs K F σ vs as' := by
      cases r with
      | dat h t => exact ⟨_, _, rfl, h, t⟩
      | slot h t => exact ⟨_, _, rfl, h, t⟩
      | fr h t => exact ⟨_, _, rfl, h, t⟩
    obtain ⟨a, as', rfl, ha, ht⟩ := hd
    simp only [argsS] at e
    cases e1 : argS ρ a with
    | none => rw [e1] at e; cases e
    | some o =>
      cases e2 : argsS ρ as' with
      | none => rw [e1, e2] at e; cases e
      | some os' =>
        rw [e1, e2] at e; cases e
        obtain ⟨h1, h2⟩ := ih ht e2
        refine ⟨by rw [List.length_cons, List.length_cons, h1], fun j o' h => ?_⟩
        cases j with
        | zero =>
          cases h
          unfold argS at e1
          cases e3 : argO ρ a with
          | none => rw [e3] at e1; cases e1
          | some o2 =>
            rw [e3] at e1
            have r := argO_at s ha e3
            cases o2 <;> cases e1 <;> exact ⟨rfl, v, rfl, r⟩
        | succ j => exact h2 j o' h
end
def mCall (f : Fn) (ms : M (List Arg)) : M OD := ms.bind fun as => fun ρ => match argsS ρ as with
  | some os => (match f (os.map some) with
    | .ok r _ => .ok r ρ
    | .ex x _ => .ex x ρ
    | .bad => .bad)
  | none => .bad
end Eg
namespace Eg
open PySem L2 PySem.W PySem.SeqAt
open PyProof.Rows (envOfC)
def mCallO (f : Fn) (ms : M (List Arg)) : M OD := ms.bind fun as => fun ρ => match as with
  | .slot i :: as' => (match ρ[i]?, argsS ρ as' with
    | some (some o), some os => if o.isO = true then (match f ((o :: os).map some) with
      | .ok r ρa => .ok r (ρ.set i (ρa[0]?.join))
      | .ex x ρa => .ex x (ρ.set i (ρa[0]?.join))
      | .bad => .bad) else .bad
    | _, _ => .bad)
  | _ => .bad
section
variable [Tbs] {K : Kw} {F F' H H' : Hp} {σ : St} {ρ ρa : Rho} {xs : List V} {os : List OD}
theorem SR.args (s : SR K F H σ ρ) (hl : os.length = xs.length) (h : ∀ (j : Nat) (o : OD), os[j]? = some o → o.isO = false ∧ ∃ v, xs[j]? = some v ∧ OR K F H v o) : SR K F H (xs.map some) (os.map some) ∧ ∀ b, ¬ own (xs.map some) (os.map some) b := by
  have lo : ∀ {j : Nat} {o : OD}, (os.map some)[j]? = some (some o) → os[j]? = some o := fun {j o} e => by
    rw [List.getElem?_map] at e
    cases q : os[j]? with
    | none => rw [q] at e; cases e
    | some z => rw [q] at e; cases e; rfl
  refine ⟨⟨s.sub, by simp [hl], fun j o e => ?_, fun j k o o' a ne e i1 => ?_, s.tb⟩, fun b ⟨j, o, e, i1, _⟩ => ?_⟩
  · obtain ⟨_, v, e1, r⟩ := h j o (lo e)
    exact ⟨v, by rw [List.getElem?_map, e1]; rfl, r⟩
  · rw [(h j o (lo e)).1] at i1; cases i1
  · rw [(h j o (lo e)).1] at i1; cases i1
theorem SR.after0 (s : SR K F H σ ρ) {σ1 : St} {ρ1 : Rho} (no : ∀ b, ¬ own σ1 ρ1 b) {σ2 : St} {ρ2 : Rho} (g : Grow (own σ1 ρ1) (own σ2 ρ2) F H F' H') (sub : Same F' H') (tb : TB F' H') : SR K F' H' σ ρ ∧ Grow (own σ ρ) (own σ ρ) F H F' H' := by
  refine ⟨s.on g.ext sub tb fun a ha => ?_, ⟨g.ext, fun b o e t _ => g.keep b o e t (no b), fun b ps e _ => g.kt b ps e (no b), fun b h => ?_, fun b h => .inl h⟩⟩
  · obtain ⟨h1, u, h2⟩ := own.at s ha
    refine ⟨?_, fun u' h t => g.keep a u' h t (no a)⟩
    cases q : F' a with
    | none => rfl
    | some z =>
      rcases g.new a (by rw [q]; simp) with w | w | w
      · exact absurd h1 w
      · rw [h2] at w; cases w
      · exact absurd w (no a)
  · rcases g.new b h with w | w | w
    · exact .inl w
    · exact .inr (.inl w)
    · exact absurd w (no b)
end
section
variable [Tbs] {X : Cx} {C : Ct} {e a b : Expr} {es : List Expr} {pos p : Pos} {k : Nat} {f : Addr} {fd : FuncData} {ps : List Str} {x : Str} {n : Nat} {m : Fn}
theorem o_call1 {ms : M (List Arg)} {G : (M (List Arg)) → M OD} (F : FnG X.prog X.w X.K X.mg X.base (L2.CX X.prog X.w) k f fd ps (spI X.K X.w X.mg C.XR n m)) (hG : X.A.guards = some []) (hr : Room k X.A) (hg : Gl X x) (hm : X.mg x = some (.ref f)) (hk : PySem.W.keepIn X.K (.ref f) = true) (hb : Binds X.K fd ps []) (tk : Takes X C.W) (ha : PA X (e :: es) (tL C ms))
    (hs : ∀ (σ : St) (ρ : Rho) (F0 H : Hp) (Q : VK), SR C.K F0 H σ ρ → PostE C (rO C.K) σ ρ F0 H Q (G ms ρ) → PostE C (rL C.K) σ ρ F0 H (fun vs H1 => spI X.K X.w X.mg C.XR n m vs H1 Q (WE C.W σ)) (ms ρ))
    (hdb : (x == ("__debug__" : Str)) = false := by decide) (he : starEach (e :: es) X.env = (false, eval e X.env) :: starEach es X.env := by rfl) (hpl : (backTo pos (starEach es X.env)).any (·.1) = false := by rfl) : PE X (.Call (.Name x p) (e :: es) [] pos) (tO C (G ms)) := by
  refine ⟨fun pins s σ H Q I ⟨F0, ρ, sr, pp⟩ => ?_⟩
  refine wpAny_Call_Name_kw (ld_glob I hg hm ?_ hdb)
  refine PySem.W.callWith_K (h₀ := X.base) I.ok.mod.kin hk (thn (ha.run pos pins s σ H _ I ⟨F0, ρ, sr, hs σ ρ F0 H Q sr pp⟩) fun us s1 ⟨vs, H1, I1, r, q⟩ => ⟨I1.kIn, ?_⟩) he hpl
  exact run_G (ds := []) (E := WE C.W σ) F hG hr hb (passAt tk σ) I1 (by rw [List.append_nil]; exact r) q
theorem o_fn {ms : M (List Arg)} (F : FnG X.prog X.w X.K X.mg X.base (L2.CX X.prog X.w) k f fd ps (spI X.K X.w X.mg C.XR n m)) (hG : X.A.guards = some []) (hr : Room k X.A) (hg : Gl X x) (hm : X.mg x = some (.ref f)) (hk : PySem.W.keepIn X.K (.ref f) = true) (hb : Binds X.K fd ps []) (tk : Takes X C.W) (ha : PA X (e :: es) (tL C ms)) (hl : (e :: es).length = n)
    (hll : ∀ ρ as ρ', ms ρ = .ok as ρ' → as.length = n)
    (hdb : (x == ("__debug__" : Str)) = false := by decide) (he : starEach (e :: es) X.env = (false, eval e X.env) :: starEach es X.env := by rfl) (hpl : (backTo pos (starEach es X.env)).any (·.1) = false := by rfl) (hK : (⟨X.K, X.w, X.mg, none, none⟩ : Kw) = C.K := by rfl) : PE X (.Call (.Name x p) (e :: es) [] pos) (tO C (mCall m ms)) := by
  refine o_call1 (G := mCall m) F hG hr hg hm hk hb tk ha (fun σ ρ F0 H Q sr pp => ?_) hdb he hpl
  refine PostE.part (RA := rL C.K) pp fun as ρ1 F1 H1 xs e1 q1 g1 s1 r1 => ?_
  have q1 := q1.on stb_O g1
  cases e2 : argsS ρ1 as with
  | none => simp only [e2] at q1; exact q1.elim
  | some os =>
    simp only [e2] at q1
    obtain ⟨h1, h2⟩ := argsS_at s1 r1 e2
    obtain ⟨sa, no⟩ := SR.args s1 h1 h2
    refine ⟨by rw [r1.len]; exact hll _ _ _ e1, F1, os, (show (⟨X.K, X.w, X.mg, none, none⟩ : Kw) = C.K from hK) ▸ sa, ?_⟩
    rw [show (⟨X.K, X.w, X.mg, none, none⟩ : Kw) = C.K from hK]
    cases e3 : m (os.map some) with
    | bad => simp only [e3] at q1; exact q1.elim
    | ok r ρa =>
      simp only [e3] at q1
      intro F' H' v g' s' ro
      obtain ⟨s2, g2⟩ := s1.after0 no g' s'.sub s'.tb
      refine q1 F' H' v g2 s2 ⟨ro.1, fun io a ea => ?_⟩
      have hn : H1 a = none := ((ro.2 io a ea).2).resolve_right (no a)
      refine ⟨fun z => ?_, .inl hn⟩
      obtain ⟨_, u, hu⟩ := own.at s1 z
      rw [hn] at hu; cases hu
    | ex y ρa =>
      simp only [e3] at q1
      intro F' H' cls d g' s' xr
      obtain ⟨s2, g2⟩ := s1.after0 no g' s'.sub s'.tb
      exact q1 F' H' cls d g2 s2 xr
theorem o_fnO {ms : M (List Arg)} (F : FnG X.prog X.w X.K X.mg X.base (L2.CX X.prog X.w) k f fd ps (spI X.K X.w X.mg C.XR n m)) (hG : X.A.guards = some []) (hr : Room k X.A) (hg : Gl X x) (hm : X.mg x = some (.ref f)) (hk : PySem.W.keepIn X.K (.ref f) = true) (hb : Binds X.K fd ps []) (tk : Takes X C.W) (ha : PA X (e :: es) (tL C ms)) (hl : (e :: es).length = n)
    (hll : ∀ ρ as ρ', ms ρ = .ok as ρ' → as.length = n)
    (hdb : (x == ("__debug__" : Str)) = false := by decide) (he : starEach (e :: es) X.env = (false, eval e X.env) :: starEach es X.env := by rfl) (hpl : (backTo pos (starEach es X.env)).any (·.1) = false := by rfl) (hK : (⟨X.K, X.w, X.mg, none, none⟩ : Kw) = C.K := by rfl) : PE X (.Call (.Name x p) (e :: es) [] pos) (tO C (mCallO m ms)) := by
  refine o_call1 (G := mCallO m) F hG hr hg hm hk hb tk ha (fun σ ρ F0 H Q sr pp => ?_) hdb he hpl
  refine PostE.part (RA := rL C.K) pp fun as ρ1 F1 H1 xs e1 q1 g1 s1 r1 => ?_
  have q1 := q1.on stb_O g1
  have len1 := hll _ _ _ e1
  cases r1 with
  | nil => exact q1.elim
  | dat _ _ => exact q1.elim
  | fr _ _ => exact q1.elim
  | @slot x0 i xs as hv rt =>
    simp only at q1
    cases e0 : ρ1[i]? with
    | none => simp only [e0] at q1; exact q1.elim
    | some oo =>
      cases oo with
      | none => simp only [e0] at q1; exact q1.elim
      | some o =>
        cases e2 : argsS ρ1 as with
        | none => simp only [e0, e2] at q1; exact q1.elim
        | some os =>
          simp only [e0, e2] at q1
          split at q1
          · rename_i io
            obtain ⟨h1, h2⟩ := argsS_at s1 rt e2
            obtain ⟨v0, ev0, or0⟩ := s1.sl i o e0
            rw [hv] at ev0; cases ev0
            have lo : ∀ {j : Nat} {u : OD}, ((o :: os).map some)[j]? = some (some u) → (j = 0 ∧ u = o) ∨ (∃ j', j = j' + 1 ∧ os[j']? = some u) := fun {j u} e => by
              cases j with
              | zero => simp at e; exact .inl ⟨rfl, e.symm⟩
              | succ j => exact .inr ⟨j, rfl, by simpa using e⟩
            have sa : SR C.K F1 H1 ((x0 :: xs).map some) ((o :: os).map some) := by
              refine ⟨s1.sub, by simp [h1], fun j u e => ?_, fun j k u u' c ne e i1 e' i2 => ?_, s1.tb⟩
              · rcases lo e with ⟨rfl, rfl⟩ | ⟨j', rfl, e5⟩
                · exact ⟨x0, rfl, or0⟩
                · obtain ⟨_, v, e1, r⟩ := h2 _ _ e5
                  exact ⟨v, by simpa using e1, r⟩
              · rcases lo e with ⟨rfl, rfl⟩ | ⟨j', rfl, e5⟩
                · rcases lo e' with ⟨rfl, rfl⟩ | ⟨k', rfl, e6⟩
                  · exact absurd rfl ne
                  · rw [(h2 _ _ e6).1] at i2; cases i2
                · rw [(h2 _ _ e5).1] at i1; cases i1
            have oi : ∀ b, own ((x0 :: xs).map some) ((o :: os).map some) b → x0 = .ref b := fun b ⟨j, u, e, i1, e'⟩ => by
              rcases lo e with ⟨rfl, rfl⟩ | ⟨j', rfl, e5⟩
              · simpa using e'
              · rw [(h2 _ _ e5).1] at i1; cases i1
            have oo : ∀ b, own ((x0 :: xs).map some) ((o :: os).map some) b → own σ ρ1 b := fun b z => ⟨i, o, e0, io, by rw [hv, oi b z]⟩
            have il : i < ρ1.length := (List.getElem?_eq_some_iff.mp e0).1
            -- behind it
            have aft : ∀ {F' H' : Hp} {ρa : Rho}, Grow (own ((x0 :: xs).map some) ((o :: os).map some)) (own ((x0 :: xs).map some) ρa) F1 H1 F' H' → SR C.K F' H' ((x0 :: xs).map some) ρa →
                SR C.K F' H' σ (ρ1.set i (ρa[0]?.join)) ∧ Grow (own σ ρ1) (own σ (ρ1.set i (ρa[0]?.join))) F1 H1 F' H' ∧ (∀ c, own σ (ρ1.set i (ρa[0]?.join)) c → own σ ρ1 c) ∧
                ∀ c, own σ (ρ1.set i (ρa[0]?.join)) c → own ((x0 :: xs).map some) ρa c ∨ (¬ x0 = .ref c ∧ own σ ρ1 c) := fun {F' H' ρa} g' s' => by
              have at' : ∀ {j : Nat} {u : OD}, (ρ1.set i (ρa[0]?.join))[j]? = some (some u) → (j = i ∧ ρa[0]? = some (some u)) ∨ (j ≠ i ∧ ρ1[j]? = some (some u)) := fun {j u} e => by
                by_cases q : i = j
                · subst q
                  rw [List.getElem?_set_self il] at e
                  have e := Option.some.inj e
                  refine .inl ⟨rfl, ?_⟩
                  cases q2 : ρa[0]? with
                  | none => rw [q2] at e; cases e
                  | some z => rw [q2] at e; exact congrArg some e
                · rw [List.getElem?_set_ne q] at e
                  exact .inr ⟨fun z => q z.symm, e⟩
              have ow1 : ∀ c, own σ (ρ1.set i (ρa[0]?.join)) c → own σ ρ1 c := fun c ⟨j, u, e, i1, e'⟩ => by
                rcases at' e with ⟨rfl, e5⟩ | ⟨ne5, e5⟩
                · exact ⟨j, o, e0, io, e'⟩
                · exact ⟨j, u, e5, i1, e'⟩
              refine ⟨⟨s'.sub, by rw [List.length_set]; exact s1.len, fun j u e => ?_, fun j k u u' c ne e i1 e' i2 e3 e4 => ?_, s'.tb⟩, ⟨g'.ext, fun b u e t n => g'.keep b u e t fun z => n (oo b z), fun b ps e n => g'.kt b ps e fun z => n (oo b z), fun b h => ?_, fun b h => .inl (ow1 b h)⟩, ow1, fun c ⟨j, u, e, i1, e'⟩ => ?_⟩
              · rcases at' e with ⟨rfl, e5⟩ | ⟨ne5, e5⟩
                · obtain ⟨v, e1, r⟩ := s'.sl 0 u e5
                  simp at e1; subst e1
                  exact ⟨x0, hv, r⟩
                · obtain ⟨v, e1, r⟩ := s1.sl j u e5
                  refine ⟨v, e1, r.keep g'.ext fun c ec iu => ?_⟩
                  subst ec
                  have nn : ¬ own ((x0 :: xs).map some) ((o :: os).map some) c := fun z => by
                    have := oi c z; subst this
                    exact s1.sep j i u o c ne5 e5 iu e0 io e1 hv
                  obtain ⟨f1, w, hw⟩ := own.at s1 ⟨j, u, e5, iu, e1⟩
                  refine ⟨?_, fun w' h t => g'.keep c w' h t nn⟩
                  cases q : F' c with
                  | none => rfl
                  | some z =>
                    rcases g'.new c (by rw [q]; simp) with w2 | w2 | w2
                    · exact absurd f1 w2
                    · rw [hw] at w2; cases w2
                    · exact absurd w2 nn
              · rcases at' e with ⟨rfl, e5⟩ | ⟨n1, e5⟩
                · rcases at' e' with ⟨rfl, e6⟩ | ⟨n2, e6⟩
                  · exact absurd rfl ne
                  · exact s1.sep j k o u' c ne e0 io e6 i2 e3 e4
                · rcases at' e' with ⟨rfl, e6⟩ | ⟨n2, e6⟩
                  · exact s1.sep j k u o c ne e5 i1 e0 io e3 e4
                  · exact s1.sep j k u u' c ne e5 i1 e6 i2 e3 e4
              · rcases g'.new b h with w | w | w
                · exact .inl w
                · exact .inr (.inl w)
                · exact .inr (.inr (oo b w))
              · rcases at' e with ⟨rfl, e5⟩ | ⟨ne5, e5⟩
                · rw [hv] at e'
                  have e' := Option.some.inj (Option.some.inj e')
                  exact .inl ⟨0, u, e5, i1, by rw [e']; rfl⟩
                · refine .inr ⟨fun z => ?_, ⟨j, u, e5, i1, e'⟩⟩
                  subst z
                  exact s1.sep j i u o c ne5 e5 i1 e0 io e' hv
            refine ⟨?_, F1, o :: os, (show (⟨X.K, X.w, X.mg, none, none⟩ : Kw) = C.K from hK) ▸ sa, ?_⟩
            · have := rt.len
              rw [List.length_cons, this]; exact len1
            rw [show (⟨X.K, X.w, X.mg, none, none⟩ : Kw) = C.K from hK]
            cases e3 : m ((o :: os).map some) with
            | bad => simp only [e3] at q1; exact q1.elim
            | ok r ρa =>
              simp only [e3] at q1
              intro F' H' v g' s' ro
              obtain ⟨s2, g2, a3, a4⟩ := aft g' s'
              refine q1 F' H' v g2 s2 ⟨ro.1, fun ir c ec => ?_⟩
              obtain ⟨n1, n2⟩ := ro.2 ir c ec
              refine ⟨fun z => ?_, n2.imp id (oo c)⟩
              rcases a4 c z with w | ⟨w1, w2⟩
              · exact n1 w
              · rcases n2 with n2 | n2
                · obtain ⟨_, u, hu⟩ := own.at s1 w2
                  rw [n2] at hu; cases hu
                · exact w1 (oi c n2)
            | ex y ρa =>
              simp only [e3] at q1
              intro F' H' cls d g' s' xr
              obtain ⟨s2, g2, a3, a4⟩ := aft g' s'
              exact q1 F' H' cls d g2 s2 xr
          · exact q1.elim
end
end Eg
namespace Eg
open PySem L2 PySem.W PySem.SeqAt
section
variable [Tbs] {X : Cx} {C : Ct} {e a b c o : Expr} {es : List Expr} {pos apos cpos pos' : Pos} {P : List Nat}
def sPut (i : Nat) (mv mk : M PyData) : M Out := mv.bind fun d => mHas i (mk.bind fun kd => fun ρ => match keyD kd, ρ[i]? with
  | some k, some (some (.od kvs)) => if kvs.length < sizeLine then .ok .nx (ρ.set i (some (.od (dPut kvs k d)))) else .bad
  | _, _ => .bad)
def sPar (i j : Nat) (ma mb : M OD) : M Out := ma.bind fun u => mb.bind fun w => fun ρ => .ok .nx ((ρ.set i (some u)).set j (some w))
theorem s_par {i j : Nat} {x y : Str} {ma mb : M OD} {px py pt : Pos} {kt k2 pt2} (hc : X.calm = true) (hN : X.N.Nodup) (hi : X.N[i]? = some x) (hj : X.N[j]? = some y)
    (hx : X.env.scope.names.lookup x = some .local) (hy : X.env.scope.names.lookup y = some .local) (ha : PE X a (tO C ma)) (hb : PE X b (tO C mb)) 
    (hw : swappedStores [.Tuple [.Name x px, .Name y py] kt pt] (.Tuple [a, b] k2 pt2) X.env = pure (some [x, y]) := by rfl) (hij : i ≠ j := by decide) (hPi : i ∉ P := by decide) (hPj : j ∉ P := by decide)
    (hs : swapsWithSole [.Tuple [.Name x px, .Name y py] kt pt] (.Tuple [a, b] k2 pt2) pos.line X.env = pure false := by rfl)
    (hsa : starEach [a, b] X.env = (false, eval a X.env) :: starEach [b] X.env := by rfl) (hsb : starEach [b] X.env = (false, eval b X.env) :: starEach [] X.env := by rfl) :
    PS X (.Assign [.Tuple [.Name x px, .Name y py] kt pt] (.Tuple [a, b] k2 pt2) pos) (tS C P (sPar i j ma mb)) := by
  refine ⟨fun pins s σ H D I ⟨F, ρ, sr, p⟩ => (ps_par hc hN hi hj hij hx hy (pa_cons ha (pa_cons hb pa_nil hsb) hsa) hw hs).run pins s σ H D I ?_⟩
  have li : i < σ.length := by rw [I.len]; exact (List.getElem?_eq_some_iff.mp hi).1
  have lj : j < σ.length := by rw [I.len]; exact (List.getElem?_eq_some_iff.mp hj).1
  unfold sPar M.bind at p
  refine ⟨F, ρ, sr, ?_⟩
  cases e1 : ma ρ with
  | bad => rw [e1] at p; exact p
  | ex x ρ' => rw [e1] at p; exact fun F' H' cls d g s r => p F' H' σ cls d g s Pres.refl r
  | ok u ρ1 =>
  simp only [e1] at p
  intro F1 H1 v g1 s1 r1
  refine ⟨F1, ρ1, s1, ?_⟩
  cases e2 : mb ρ1 with
  | bad => simp only [e2] at p; exact p.elim
  | ex x ρ' => simp only [e2] at p; exact fun F' H' cls d g s r => p F' H' σ cls d (g1.trans g) s Pres.refl r
  | ok w ρ2 =>
  simp only [e2] at p
  intro F2 H2 z g2 s2 r2
  refine ⟨v, z, rfl, ?_⟩
  -- the first thing is as it was
  have keep1 : ∀ a, v = .ref a → u.isO = true → ¬ own σ ρ1 a ∧ (∃ o, H1 a = some o) ∧ F1 a = none := fun a ea io => by
    obtain ⟨b, o, eb, fb, hb⟩ := r1.1.refs io
    rw [eb] at ea; cases ea
    exact ⟨(r1.2 io a eb).1, ⟨o, hb⟩, fb⟩
  have or1 : OR C.K F2 H2 v u := r1.1.keep g2.ext fun a ea io => by
    obtain ⟨n1, ⟨o, ho⟩, fa⟩ := keep1 a ea io
    refine ⟨?_, fun o' h t => g2.keep a o' h t n1⟩
    cases q : F2 a with
    | none => rfl
    | some z =>
      rcases g2.new a (by rw [q]; simp) with y | y | y
      · exact absurd fa y
      · rw [ho] at y; cases y
      · exact absurd y n1
  have no2 : ∀ a, v = .ref a → u.isO = true → ¬ own σ ρ2 a := fun a ea io y => by
    obtain ⟨n1, ⟨o, ho⟩, _⟩ := keep1 a ea io
    rcases g2.ows a y with k | k
    · exact n1 k
    · rw [ho] at k; cases k
  have sA : SR C.K F2 H2 (σ.set i (some v)) (ρ2.set i (some u)) := s2.store li or1 fun io a ea => no2 a ea io
  have sB : SR C.K F2 H2 ((σ.set i (some v)).set j (some z)) ((ρ2.set i (some u)).set j (some w)) := by
    refine sA.store (by rw [List.length_set]; exact lj) r2.1 fun io a ea y => ?_
    rcases own.store li y with k | ⟨k1, k2⟩
    · exact (r2.2 io a ea).1 k
    · obtain ⟨n1, ⟨o, ho⟩, _⟩ := keep1 a k2 k1
      rcases (r2.2 io a ea).2 with m | m
      · rw [ho] at m; cases m
      · exact n1 m
  have g := g1.trans g2
  refine p F2 H2 _ ⟨g.ext, g.keep, g.kt, g.new, fun b y => ?_⟩ sB ⟨by rw [List.length_set, List.length_set], fun p hp => ?_⟩
  · rcases own.store (by rw [List.length_set]; exact lj) y with y | ⟨k1, k2⟩
    · rcases own.store li y with k | ⟨k1, k2⟩
      · exact g.ows b k
      · exact ((r1.2 k1 b k2).2).symm
    · rcases (r2.2 k1 b k2).2 with m | m
      · exact (g1.back m).symm
      · exact g1.ows b m
  · rw [List.getElem?_set_ne (fun z => hPj (by rw [z]; exact hp)), List.getElem?_set_ne (fun z => hPi (by rw [z]; exact hp))]
end
end Eg
namespace Eg
open PySem L2 PySem.W PySem.SeqAt
section
variable [Tbs] {X : Cx} {C : Ct} {e a b c o : Expr} {es : List Expr} {pos apos cpos pos' : Pos} {P : List Nat}
theorem s_setC {i : Nat} {y : Str} {py : Pos} {elt tg iter : Expr} {ifs : List Expr} {scope : Scope} {own : List (Str × Nat)} {pos spos : Pos} {g : TG} {t : Tgt} {src : M (List PyData)} {mt : M Bool} {me : M PyData} {n : Nat} (hc : X.calm = true) (hN : X.N.Nodup) (hy : X.N[i]? = some y) (hyl : X.env.scope.names.lookup y = some .local)
    (hsw : swapsWith (.ListComp elt [⟨tg, iter, ifs, 0⟩] scope pos) (some (.Name y py)) spos.line X.env = pure true) (hi : PI X tg iter (tI C src)) (ok : BlkOk X.N X.env.scope scope own)
    (hg : ∀ (s : Shared) (H : Hp) (D : Addr) (cl : List (Str × Addr)) (fp : List Addr), PG (X.blk s H scope (compEnvC scope cl D X.env) fp) tg g) (htg : TgOk C.quiet (outs n (own.map (·.2))) n g t)
    (ht : ∀ (s : Shared) (H : Hp) (D : Addr) (cl : List (Str × Addr)) (fp : List Addr), PTs (X.blk s H scope (compEnvC scope cl D X.env) fp) ifs (tT C.quiet mt))
    (he : ∀ (s : Shared) (H : Hp) (D : Addr) (cl : List (Str × Addr)) (fp : List Addr), PE (X.blk s H scope (compEnvC scope cl D X.env) fp) elt (tD C.quiet me)) (hP : i ∉ P := by decide) (hL : X.N.length = n := by rfl) (hs : ∀ x, foldedSetIterable iter X.env x = pure x := by intro _; rfl) :
    PS X (.Assign [.Name y py] (.ListComp elt [⟨tg, iter, ifs, 0⟩] scope pos) spos) (tS C P (sSet i (mComp src t mt me (own.map (·.2))))) := by
  refine ⟨fun pins s σ H D I ⟨F, ρ, sr, p⟩ => (ps_setLc hc hN hy hyl hsw hi ok hg ht he hs).run pins s σ H D I ?_⟩
  have q := PostS.set p (by rw [I.len]; exact (List.getElem?_eq_some_iff.mp hy).1) hP
  exact lc_read (by rw [I.len, hL]) htg ⟨F, ρ, sr, q⟩
end
end Eg
namespace Eg
open PySem L2 PySem.W PySem.SeqAt
theorem _root_.L2.Room.units1 {k : Nat} {A : Around} (r : Room k A) : A.units + 1 < cLine := by have := r.un; omega
def LenOk (ms : M (List Arg)) (n : Nat) : Prop := ∀ ρ as ρ', ms ρ = .ok as ρ' → as.length = n
theorem ll_nil : LenOk mNil 0 := fun _ _ _ e => by cases e; rfl
theorem ll_cons {ma : M Arg} {ms : M (List Arg)} {n : Nat} (h : LenOk ms n) : LenOk (mCons ma ms) (n + 1) := fun ρ as ρ' e => by
  simp only [mCons, M.bind] at e
  cases e1 : ma ρ with
  | bad => rw [e1] at e; cases e
  | ex _ _ => rw [e1] at e; cases e
  | ok a ρ1 =>
    rw [e1] at e
    simp only at e
    cases e2 : ms ρ1 with
    | bad => rw [e2] at e; cases e
    | ex _ _ => rw [e2] at e; cases e
    | ok as' ρ2 =>
      rw [e2] at e
      cases e
      rw [List.length_cons, h _ _ _ e2]
theorem b_len : bootBuiltins "len" = some (.builtin "len") := by decide +kernel
theorem b_repr : bootBuiltins "repr" = some (.builtin "repr") := by decide +kernel
theorem b_sorted : bootBuiltins "sorted" = some (.builtin "sorted") := by decide +kernel
theorem b_min : bootBuiltins "min" = some (.builtin "min") := by decide +kernel
theorem b_list : bootBuiltins "list" = some (.type "list") := by decide +kernel
theorem b_tuple : bootBuiltins "tuple" = some (.type "tuple") := by decide +kernel
theorem b_int : bootBuiltins "int" = some (.type "int") := by decide +kernel
theorem blk_look {scope : Scope} {env : Env} {sc : Scope} {x : Str} {k : NameKind} (hs : env.scope = sc) (h : (scope.names.map fun (n, k) => if (k == .free && sc.kind == .function && sc.names.lookup n == some .cell) then (n, .cell) else (n, k)).lookup x = some k) :
    (relabel scope env).names.lookup x = some k := by subst hs; exact h
theorem blk_gl {X : Cx} {scope : Scope} {env : Env} {sc : Scope} {x : Str} (hX : X.env.scope = relabel scope env) (hs : env.scope = sc) (h : (scope.names.map fun (n, k) => if (k == .free && sc.kind == .function && sc.names.lookup n == some .cell) then (n, .cell) else (n, k)).lookup x = some .globalImplicit) : Gl X x := by
  show X.env.scope.names.lookup x = _
  rw [hX]
  exact blk_look hs h
end Eg
namespace Eg
open PySem L2 PySem.W PySem.SeqAt PySem.Spec PyProof.Rows
theorem quietTop {P : Program} {w : World} {H : Hp} {s s' : Shared} {e : Value} (h : L2.CX P w [] H s (fun _ _ _ => False) e s') : False := by
  obtain ⟨_, _, _, _, _, _, _, _, _, _, _, _, z⟩ := h
  exact z
theorem script_heap {P : Program} {w : World} {K : PySem.W.Frag} {h : Heap} {a : Addr} {vs : List Value} {ns : List Int} (KX : K.In h) (ha : h.get? a = some { cls := .type "list", data := .seq vs.toArray }) (hi : IntsAre vs ns) (hl : ns.length ≤ sizeLine) :
    ∃ H : Hp, SqL K H a (ns.map V.int) ∧ HOk P w H h ∧ ∀ b, H b = none ∨ (b = a ∧ K.lookup a = none ∧ ∃ o, H b = some (.frz o (.lst (ns.map V.int)))) := by
  have rv := vals_ints hi
  cases hk : K.lookup a with
  | some o =>
    refine ⟨fun _ => none, .inr ⟨o, vs.toArray, ?_⟩, fun b u z => (by cases z), fun b => .inl rfl⟩
    have same := KX a o hk
    rw [ha] at same
    cases same
    exact ⟨_, hk, rfl, rfl, rfl, by simpa [hi.length] using hl, by simpa using rv⟩
  | none =>
    refine ⟨upd (fun _ => none) a (.frz { cls := .type "list", data := .seq vs.toArray } (.lst (ns.map V.int))), .inl (.inr ⟨_, upd_same⟩), fun b u z => ?_, fun b => ?_⟩
    · by_cases q : b = a
      · subst q
        rw [upd_same] at z
        cases z
        exact ⟨ha, by simpa using hl, vs, _, rv, ha⟩
      · rw [upd_ne q] at z; cases z
    · by_cases q : b = a
      · subst q; exact .inr ⟨rfl, rfl, _, upd_same⟩
      · exact .inl (upd_ne q)
theorem law_top {P : Program} {w : World} {K : PySem.W.Frag} {mg mb : Str → Option Value} {k : Nat} {fa a : Addr} {fd : FuncData} {x : Str} {sp : Sp} {sT : Shared} {vs : List Value} {ns : List Int}
    (KX : K.In sT.heap) (hns : sT.heap.Ns mainGlobals mg) (hb : sT.heap.Ns builtinsNs mb) (hbb : ∀ x : Str, x ≠ "__name__" → mb x = bootBuiltins x) (hlim : sT.heap.NoLimit) (hgen : sT.gens = #[])
    (ha : sT.heap.get? a = some { cls := .type "list", data := .seq vs.toArray }) (hi : IntsAre vs ns) (hr : Room k callerA) (hl : ns.length ≤ sizeLine)
    (F : ∀ base : Heap, FnG P w K mg base (L2.CX P w) k fa fd [x] sp) (hbind : ∀ (s : Shared) (u : Value), BindsTo s fd ⟨[u], []⟩ [(x, u)])
    (hsp : ∀ H : Hp, SqL K H a (ns.map V.int) → sp [.ref a] H (fun v _ => v = .bl true) fun _ _ _ => False) :
    codeAny (model P w) callerA (.call (.ref fa) ⟨[.ref a], []⟩) (fun r s' => r = .ok (.ret (.bool true)) ∧ OldK sT.heap s'.heap ∧ s'.os = sT.os ∧ AllBare s'.gens) sT := by
  obtain ⟨H, sq, ok, only⟩ := script_heap (P := P) (w := w) KX ha hi hl
  -- an object that isn't the script's is in the ground
  have up : ∀ {b : Addr} {o : Obj}, sT.heap.get? b = some o → H b = none → (hidT sT.heap H).get? b = some o := fun e n => hidT_get e n
  have dictUp : ∀ {b : Addr} {m : Str → Option Value}, sT.heap.Ns b m → (hidT sT.heap H).Ns b m := fun {b m} ⟨o, es, ep, e, d, r⟩ => by
    rcases only b with z | ⟨z, _⟩
    · exact ⟨o, es, ep, up e z, d, r⟩
    · subst z
      rw [ha] at e
      cases e
      exact absurd (show Data.seq _ _ = Data.dict es ep from d) (by intro q; cases q)
  have kIn : K.In (hidT sT.heap H) := fun b o e => by
    rcases only b with z | ⟨z, z2, _⟩
    · exact up (KX b o e) z
    · subst z; rw [z2] at e; cases e
  obtain ⟨ml, l1, l2⟩ := hlim
  have md : Mod K mg (hidT sT.heap H) := ⟨kIn, dictUp hns, ⟨mb, dictUp hb, hbb⟩, ml, dictUp l1, l2⟩
  have e0 : Env0 P w K mg (hidT sT.heap H) callerA [] sT H := ⟨rfl, md, fun b o e => of_hidT e, Nat.le_of_eq (hidT_size _ _), trivial, fun b z => (by cases z), ok, .of_eq hgen⟩
  refine codeAny_mono ((F _).run callerA [] sT H ⟨[.ref a], []⟩ [.ref a] [.ref a] _ _ rfl hr e0 (hbind sT (.ref a)) (.cons rfl .nil) (hsp H sq)) fun r s' z => ?_
  match r, z with
  | .error e, z => exact (quietTop z).elim
  | .ok (.ret u), ⟨v, H', os, bare, un, ok', ru, ev⟩ =>
    have ev : v = .bl true := ev
    subst ev
    obtain rfl : u = Value.bool true := ru
    refine ⟨rfl, .of_keep fun b o e => ?_, os, bare⟩
    rcases only b with z | ⟨_, _, ob, z⟩
    · exact un.keep b o e z (fun y => by cases y) (fun y => by cases y)
    · have now := (ok' b _ (un.frzs b ob _ z)).1
      have was := (ok b _ z).1
      rw [e] at was
      cases was
      exact now
def offT (H : Hp) : Hp := fun b => match H b with
  | some (.tbl _) => none
  | o => o
theorem offT_of {H : Hp} {b : Addr} {u : HO} (h : offT H b = some u) : H b = some u ∧ noT u := by
  unfold offT at h
  cases q : H b with
  | none => rw [q] at h; cases h
  | some o =>
    rw [q] at h
    by_cases n : noT o
    · have : o = u := by
        cases o with
        | tbl ps => cases h
        | _ => exact Option.some.inj h
      subst this
      exact ⟨rfl, n⟩
    · obtain ⟨ps, rfl⟩ : ∃ ps, o = .tbl ps := Classical.byContradiction fun z => n fun ps q => z ⟨ps, q⟩
      cases h
theorem offT_some {H : Hp} {b : Addr} {u : HO} (h : H b = some u) (n : noT u) : offT H b = some u := by
  unfold offT
  rw [h]
  cases u with
  | tbl ps => exact absurd rfl (n ps)
  | _ => rfl
theorem offT_sq {K : PySem.W.Frag} {H : Hp} {a : Addr} {xs : List V} (h : SqL K H a xs) : SqL K (offT H) a xs := by
  rcases h with (h | ⟨o, h⟩) | h
  · exact .inl (.inl (offT_some h fun _ z => by cases z))
  · exact .inl (.inr ⟨o, offT_some h fun _ z => by cases z⟩)
  · exact .inr h
theorem TB.start [Tbs] {H : Hp} (h : ∀ p ∈ Tbs.T, H p.1 = some (.tbl #[])) : TB (offT H) H := ⟨fun p hp => by
  have e := h p hp
  refine ⟨by unfold offT; rw [e], #[], e, True.intro, fun pos cv hc => ?_⟩
  have z : codeAmong pos [] = some cv := hc
  simp [codeAmong] at z, fun b u e => (offT_of e).2⟩
theorem law_walk [Tbs] {l : PySem.W.OpenLaw} {n k m : Nat} {q : Program} {loose : List Str} {XP : (Str → Option Value) → Heap → Prop} {YP : World → Heap → Prop} {d : DefRec} {K : Params → PySem.W.Frag} {x : Str} {body : M Out} {XR : Hp → Hp → Value → Option Addr → Xc → Prop}
    (hm1 : l.most = some n) (hm2 : n ≤ sizeLine) (hdf : d.params.defaults = []) (hr : Room k callerA) (hY : ∀ (w : World) (h : Heap), YP w h → (K w.params).In h)
    (F : ∀ (w : World) (mg : Str → Option Value) (fa : Addr) (hp : Heap), (K w.params).In hp → hp.Ns mainGlobals mg → mg d.name = some (.ref fa) →
      ∃ fd : FuncData, (∀ (s : Shared) (u : Value), BindsTo s fd ⟨[u], []⟩ [(x, u)]) ∧ ∀ base : Heap, FnG l.prog w (K w.params) mg base (L2.CX l.prog w) k fa fd [x] (spI (K w.params) w mg XR 1 (fnM m [false] body)))
    (true_ : ∀ ns : List Int, ns.length ≤ n → ∃ ρ, fnM m [false] body [some (.sc ns)] = .ok (.sh (.bool true)) ρ) (hT : Tbs.T = [] := by rfl) :
    PySem.W.WalkO q loose XP YP l.row.toRowW d [] (fun f us => PySem.call f us) := by
  refine Att.attach_call hm1 hdf fun w sA sT mg mb fa o pm cd doc a vs ns G Y h1 h2 h3 hmg hobj hints hlen hg => ?_
  obtain ⟨fd, hb, hF⟩ := F w mg fa _ (hY w _ Y) G.T.g hmg
  refine law_top (hY w _ Y) G.T.g G.T.b G.T.builtins G.T.nolimit hg hobj hints hr (Nat.le_trans hlen hm2) hF hb fun H sq => ⟨rfl, offT H, [.sc ns], ⟨fun b u e => (offT_of e).1, rfl, fun i o h => ?_, fun i j o o' b ne h io => ?_, .start fun p hp => by rw [hT] at hp; cases hp⟩, ?_⟩
  · match i, h with
    | 0, h => cases h; exact ⟨_, rfl, a, rfl, offT_sq sq⟩
  · match i, h with
    | 0, h => cases h; cases io
  · obtain ⟨ρ, e⟩ := true_ ns hlen
    show PostE _ _ _ _ _ _ _ (fnM m [false] body [some (.sc ns)])
    rw [e]
    intro F' H' v _ _ r
    have r := r.1
    cases r
    rfl
end Eg
namespace Eg
open PySem L2 PySem.W PySem.SeqAt
def Res.go {α β : Type} (x : Res α) (f : α → M β) : Res β := match x with
  | .ok a ρ => f a ρ
  | .ex x ρ => .ex x ρ
  | .bad => .bad
def Res.sq (x : Res Out) (n : M Out) : Res Out := match x with
  | .ok .nx ρ => n ρ
  | .ok (.rt r) ρ => .ok (.rt r) ρ
  | .ok .bk ρ => .ok .bk ρ
  | .ok .ct ρ => .ok .ct ρ
  | .ex x ρ => .ex x ρ
  | .bad => .bad
def Res.opt {α : Type} (x : Option α) (ρ : Rho) : Res α := match x with
  | some a => .ok a ρ
  | none => .bad
def Res.fin (io : List Bool) (x : Res Out) : Res OD := match x with
  | .ok (.rt r) ρ' => .ok r (keepIo io ρ')
  | .ok .nx ρ' => .ok (.sh .none) (keepIo io ρ')
  | .ex x ρ' => .ex x (keepIo io ρ')
  | _ => .bad
def slotD : Option (Option OD) → Option PyData
  | some (some (.sh d)) => some d
  | some (some (.ol xs)) => some (.list xs)
  | _ => none
section
variable {α β : Type} {ρ : Rho}
theorem v_bind (m : M α) (f : α → M β) : (m.bind f) ρ = (m ρ).go f := rfl
theorem v_go (a : α) (f : α → M β) : (Res.ok a ρ).go f = f a ρ := rfl
theorem v_ret (a : α) : M.ret a ρ = .ok a ρ := rfl
theorem v_get : M.get ρ = .ok ρ ρ := rfl
theorem v_lift (x : Option α) : M.lift x ρ = Res.opt x ρ := by cases x <;> rfl
theorem v_opt (a : α) : Res.opt (some a) ρ = .ok a ρ := rfl
theorem v_seq (m n : M Out) : sSeq m n ρ = (m ρ).sq n := by
  unfold sSeq M.bind Res.sq
  cases m ρ with
  | ok o r => cases o <;> rfl
  | _ => rfl
theorem v_sqn (n : M Out) : (Res.ok Out.nx ρ).sq n = n ρ := rfl
theorem v_sqr (r : OD) (n : M Out) : (Res.ok (Out.rt r) ρ).sq n = .ok (.rt r) ρ := rfl
theorem v_sqb (n : M Out) : (Res.ok Out.bk ρ).sq n = .ok .bk ρ := rfl
theorem v_sqc (n : M Out) : (Res.ok Out.ct ρ).sq n = .ok .ct ρ := rfl
theorem v_set (i : Nat) (m : M OD) : sSet i m ρ = (m ρ).go fun o => fun ρ => .ok .nx (ρ.set i (some o)) := rfl
theorem v_sret (m : M OD) : sRet m ρ = (m ρ).go fun r => M.ret (.rt r) := rfl
theorem v_if (t : M Bool) (a b : M Out) : sIf t a b ρ = (t ρ).go fun k => if k = true then a else b := rfl
theorem v_mif (t : M Bool) (a b : M α) : mIf t a b ρ = (t ρ).go fun k => if k = true then a else b := rfl
theorem v_next : sNext ρ = .ok .nx ρ := rfl
theorem v_expr (m : M PyData) : sExpr m ρ = (m ρ).go fun _ => M.ret .nx := rfl
theorem v_dat (d : PyData) : res1 ρ (.dat d) = some d := rfl
theorem v_slot (i : Nat) : res1 ρ (.slot i) = slotD ρ[i]? := rfl
theorem v_sd (d : PyData) : slotD (some (some (.sh d))) = some d := rfl
theorem v_so (d : List PyData) : slotD (some (some (.ol d))) = some (.list d) := rfl
def m2k {γ : Type} (g : PyData → PyData → Option γ) (a b : Arg) : M γ := fun ρ => Res.opt ((res1 ρ a).bind fun x => (res1 ρ b).bind fun y => g x y) ρ
theorem v_m2 {γ : Type} (g : PyData → PyData → Option γ) (ma mb : M Arg) : m2 g ma mb ρ = (ma ρ).go fun a => mb.bind fun b => m2k g a b := by
  refine congrArg (Res.go (ma ρ)) (funext fun a => funext fun r => ?_)
  exact congrArg (Res.go (mb r)) (funext fun b => funext fun r2 => v_lift _)
theorem v_m2k {γ : Type} (g : PyData → PyData → Option γ) (a b : Arg) : m2k g a b ρ = Res.opt ((res1 ρ a).bind fun x => (res1 ρ b).bind fun y => g x y) ρ := rfl
def m1k {γ : Type} (g : PyData → Option γ) (a : Arg) : M γ := fun ρ => Res.opt ((res1 ρ a).bind fun x => g x) ρ
theorem v_m1 {γ : Type} (g : PyData → Option γ) (ma : M Arg) : m1 g ma ρ = (ma ρ).go fun a => m1k g a :=
  congrArg (Res.go (ma ρ)) (funext fun a => funext fun r => v_lift _)
theorem v_m1k {γ : Type} (g : PyData → Option γ) (a : Arg) : m1k g a ρ = Res.opt ((res1 ρ a).bind fun x => g x) ρ := rfl
def mLk {γ : Type} (g : List PyData → Option γ) (as : List Arg) : M γ := fun ρ => Res.opt ((resL ρ as).bind fun x => g x) ρ
theorem v_mL {γ : Type} (g : List PyData → Option γ) (ms : M (List Arg)) : mL g ms ρ = (ms ρ).go fun as => mLk g as :=
  congrArg (Res.go (ms ρ)) (funext fun a => funext fun r => v_lift _)
theorem v_mLk {γ : Type} (g : List PyData → Option γ) (as : List Arg) : mLk g as ρ = Res.opt ((resL ρ as).bind fun x => g x) ρ := rfl
theorem v_rl0 : resL ρ [] = some [] := rfl
theorem v_rl1 (a : Arg) (as : List Arg) : resL ρ (a :: as) = (res1 ρ a).bind fun x => (resL ρ as).bind fun y => some (x :: y) := rfl
theorem v_nil : mNil ρ = .ok [] ρ := rfl
theorem v_cons (ma : M Arg) (ms : M (List Arg)) : mCons ma ms ρ = (ma ρ).go fun a => ms.bind fun as => M.ret (a :: as) := rfl
theorem v_fix {γ : Type} (g : List PyData → Option γ) (ms : M (List Arg)) : mFix g ms ρ = (ms ρ).go fun as => M.lift (do g (← fixL as)) := rfl
theorem v_fix0 : fixL [] = some [] := rfl
theorem v_fix1 (d : PyData) (as : List Arg) : fixL (.dat d :: as) = (fixL as).map (d :: ·) := rfl
theorem v_fzs (d : PyData) : fz (.sh d) = M.ret d := rfl
theorem v_fzo (d : List PyData) : fz (.ol d) = M.ret (.list d) := rfl
theorem v_ab (b : Bool) : asBool (.bool b) = M.ret b := rfl
theorem v_not (m : M Bool) : mNot m ρ = (m ρ).go fun b => M.ret (!b) := rfl
theorem v_and (a b : M Bool) : mAnd a b ρ = (a ρ).go fun k => if k = true then b else M.ret false := rfl
theorem v_or (a b : M Bool) : mOr a b ρ = (a ρ).go fun k => if k = true then M.ret true else b := rfl
theorem v_ai (i : Int) : asInt (.int i) = M.ret i := rfl
theorem v_fn (m : Nat) (io : List Bool) (b : M Out) : fnM m io b ρ = Res.fin io (b (ρ ++ List.replicate m none)) := by
  unfold fnM Res.fin
  cases b (ρ ++ List.replicate m none) with
  | ok o r => cases o <;> rfl
  | _ => rfl
theorem v_fin (io : List Bool) (r : OD) : Res.fin io (.ok (.rt r) ρ) = .ok r (keepIo io ρ) := rfl
theorem v_fin2 (io : List Bool) : Res.fin io (.ok .nx ρ) = .ok (.sh .none) (keepIo io ρ) := rfl
theorem v_kp0 (ρ : Rho) : keepIo [] ρ = [] := rfl
theorem v_kpt (io : List Bool) (o : Option OD) (ρ : Rho) : keepIo (true :: io) (o :: ρ) = o :: keepIo io ρ := rfl
theorem v_kpf (io : List Bool) (o : Option OD) (ρ : Rho) : keepIo (false :: io) (o :: ρ) = none :: keepIo io ρ := rfl
def slotO (x : Option (Option OD)) : Option OD := x.join
theorem v_slo (o : OD) : slotO (some (some o)) = some o := rfl
theorem v_mslot (i : Nat) : mSlot i ρ = Res.opt ((slotO ρ[i]?).map fun _ => .slot i) ρ := by
  unfold mSlot slotO
  split
  · rename_i h; rw [h]; rfl
  · rename_i h
    cases q : ρ[i]? with
    | none => rfl
    | some o => cases o with
      | none => rfl
      | some o => exact absurd q (h o)
def nameK (i : Nat) (x : Option (Option OD)) : M PyData := fun ρ => match x with
  | some (some (.sh d)) => .ok d ρ
  | some (some (.ol xs)) => .ok (.list xs) (ρ.set i (some (.sh (.list xs))))
  | _ => .bad
theorem v_name (i : Nat) : mName i ρ = nameK i ρ[i]? ρ := by
  unfold mName nameK
  cases ρ[i]? with
  | none => rfl
  | some o => cases o with
    | none => rfl
    | some o => cases o <;> rfl
theorem v_nms (i : Nat) (d : PyData) : nameK i (some (some (.sh d))) ρ = .ok d ρ := rfl
theorem v_nmo (i : Nat) (d : List PyData) : nameK i (some (some (.ol d))) ρ = .ok (.list d) (ρ.set i (some (.sh (.list d)))) := rfl
def takeK (i : Nat) (x : Option (Option OD)) : M OD := fun ρ => match x with
  | some (some (.sc _)) => .bad
  | some (some o) => .ok o (ρ.set i none)
  | _ => .bad
theorem v_take (i : Nat) : mTake i ρ = takeK i ρ[i]? ρ := by
  unfold mTake takeK
  cases ρ[i]? with
  | none => rfl
  | some o => cases o with
    | none => rfl
    | some o => cases o <;> rfl
theorem v_tks (i : Nat) (d : PyData) : takeK i (some (some (.sh d))) ρ = .ok (.sh d) (ρ.set i none) := rfl
theorem v_tko (i : Nat) (d : List PyData) : takeK i (some (some (.ol d))) ρ = .ok (.ol d) (ρ.set i none) := rfl
def hasK {γ : Type} (x : Option (Option OD)) (m : M γ) : M γ := fun ρ => match x with
  | some (some _) => m ρ
  | _ => .bad
theorem v_has {γ : Type} (i : Nat) (m : M γ) : mHas i m ρ = hasK ρ[i]? m ρ := by
  unfold mHas hasK
  cases ρ[i]? with
  | none => rfl
  | some o => cases o <;> rfl
theorem v_hask {γ : Type} (o : OD) (m : M γ) : hasK (some (some o)) m ρ = m ρ := rfl
def dgO (x : Option (Option OD)) (k : Key) : M PyData := fun ρ => match x with
  | some (some (.od kvs)) => Res.opt (dGet kvs k) ρ
  | _ => .bad
def dgk (i : Nat) (kd : PyData) : M PyData := fun ρ => match keyD kd with
  | some k => dgO ρ[i]? k ρ
  | none => .bad
theorem v_dget (i : Nat) (mk : M PyData) : mDGet i mk ρ = (mk ρ).go (dgk i) := by
  refine congrArg (Res.go (mk ρ)) (funext fun a => funext fun r => ?_)
  unfold dgk dgO
  cases Eg.keyD a with
  | none => rfl
  | some k =>
    cases q : r[i]? with
    | none => rfl
    | some o => cases o with
      | none => rfl
      | some o => cases o with
        | od kvs =>
          show (match dGet kvs k with | some d => Res.ok d r | none => Res.bad) = Res.opt (dGet kvs k) r
          cases dGet kvs k <;> rfl
        | _ => rfl
theorem v_dgk (i : Nat) (x : Str) : dgk i (.str x) ρ = dgO ρ[i]? (.inr x) ρ := rfl
theorem v_dgo (kvs : List (Key × PyData)) (k : Key) : dgO (some (some (.od kvs))) k ρ = Res.opt (dGet kvs k) ρ := rfl
def putO (x : Option (Option OD)) (i : Nat) (k : Key) (d : PyData) : M Out := fun ρ => match x with
  | some (some (.od kvs)) => if kvs.length < sizeLine then .ok .nx (ρ.set i (some (.od (dPut kvs k d)))) else .bad
  | _ => .bad
def putk (i : Nat) (d kd : PyData) : M Out := fun ρ => match keyD kd with
  | some k => putO ρ[i]? i k d ρ
  | none => .bad
theorem v_put (i : Nat) (mv mk : M PyData) : sPut i mv mk ρ = (mv ρ).go fun d => mHas i (mk.bind (putk i d)) := by
  refine congrArg (Res.go (mv ρ)) (funext fun d => congrArg (mHas i) (funext fun r => congrArg (Res.go (mk r)) (funext fun a => funext fun r2 => ?_)))
  unfold putk putO
  cases Eg.keyD a with
  | none => rfl
  | some k =>
    cases q : r2[i]? with
    | none => rfl
    | some o => cases o with
      | none => rfl
      | some o => cases o <;> rfl
theorem v_putk (i : Nat) (x : Str) (d : PyData) : putk i d (.str x) ρ = putO ρ[i]? i (.inr x) d ρ := rfl
theorem v_puto (i : Nat) (k : Key) (d : PyData) (kvs : List (Key × PyData)) : putO (some (some (.od kvs))) i k d ρ = if kvs.length < sizeLine then .ok .nx (ρ.set i (some (.od (dPut kvs k d)))) else .bad := rfl
def apO (x : Option (Option OD)) (i : Nat) (d : PyData) : M PyData := fun ρ => match x with
  | some (some (.ol xs)) => if xs.length < sizeLine then .ok .none (ρ.set i (some (.ol (xs ++ [d])))) else .bad
  | _ => .bad
theorem v_app (i : Nat) (m : M PyData) : mAppend i m ρ = (m ρ).go fun d => fun ρ => apO ρ[i]? i d ρ := by
  refine congrArg (Res.go (m ρ)) (funext fun a => funext fun r => ?_)
  unfold apO
  cases r[i]? with
  | none => rfl
  | some o => cases o with
    | none => rfl
    | some o => cases o <;> rfl
theorem v_apo (i : Nat) (d : PyData) (xs : List PyData) : apO (some (some (.ol xs))) i d ρ = if xs.length < sizeLine then .ok .none (ρ.set i (some (.ol (xs ++ [d])))) else .bad := rfl
def olK {γ : Type} (x : Option (Option OD)) (m : M γ) : M γ := fun ρ => match x with
  | some (some (.ol _)) => m ρ
  | _ => .bad
theorem v_ol {γ : Type} (i : Nat) (m : M γ) : mOl i m ρ = olK ρ[i]? m ρ := by
  unfold mOl isOl olK
  cases ρ[i]? with
  | none => rfl
  | some o => cases o with
    | none => rfl
    | some o => cases o <;> rfl
theorem v_olk {γ : Type} (xs : List PyData) (m : M γ) : olK (some (some (.ol xs))) m ρ = m ρ := rfl
def coR (i : Nat) (ρ : Rho) : Res OD → Res OD
  | .ok r ρa => .ok r (ρ.set i (ρa[0]?.join))
  | .ex x ρa => .ex x (ρ.set i (ρa[0]?.join))
  | .bad => .bad
def coO (x : Option (Option OD)) (i : Nat) (f : Fn) (os : Option (List OD)) : M OD := fun ρ => match x, os with
  | some (some o), some os => if o.isO = true then coR i ρ (f ((o :: os).map some)) else .bad
  | _, _ => .bad
def coK (f : Fn) : List Arg → M OD
  | .slot i :: as => fun ρ => coO ρ[i]? i f (argsS ρ as) ρ
  | _ => M.bad
theorem v_callO (f : Fn) (ms : M (List Arg)) : mCallO f ms ρ = (ms ρ).go (coK f) := by
  refine congrArg (Res.go (ms ρ)) (funext fun as => funext fun r => ?_)
  cases as with
  | nil => rfl
  | cons a as =>
    cases a with
    | dat d => rfl
    | fr d => rfl
    | slot i =>
      show _ = coO r[i]? i f (argsS r as) r
      unfold coO
      simp only
      cases r[i]? with
      | none => rfl
      | some o => cases o with
        | none => rfl
        | some o =>
          cases argsS r as with
          | none => rfl
          | some os =>
            simp only
            split
            · cases f (List.map some (o :: os)) <;> rfl
            · rfl
theorem v_coK (f : Fn) (i : Nat) (as : List Arg) : coK f (.slot i :: as) ρ = coO ρ[i]? i f (argsS ρ as) ρ := rfl
theorem v_coO (i : Nat) (f : Fn) (kvs : List (Key × PyData)) (os : List OD) : coO (some (some (.od kvs))) i f (some os) ρ = coR i ρ (f (some (.od kvs) :: os.map some)) := rfl
theorem v_coR (i : Nat) (r : OD) (o : Option OD) (ρa : Rho) : coR i ρ (.ok r (o :: ρa)) = .ok r (ρ.set i o) := rfl
theorem v_as0 : argsS ρ [] = some [] := rfl
theorem v_asd (d : PyData) (as : List Arg) : argsS ρ (.dat d :: as) = (argsS ρ as).map (.sh d :: ·) := by
  show ((argsS ρ as).bind fun y => some (OD.sh d :: y)) = _
  cases argsS ρ as <;> rfl
def asO : Option (Option OD) → Option OD
  | some (some (.sh d)) => some (.sh d)
  | some (some (.sc ns)) => some (.sc ns)
  | some (some (.sn kvs)) => some (.sn kvs)
  | some (some (.sd kvs)) => some (.sd kvs)
  | _ => none
theorem v_ass (i : Nat) (as : List Arg) : argsS ρ (.slot i :: as) = (asO ρ[i]?).bind fun o => (argsS ρ as).map (o :: ·) := by
  have e : argS ρ (.slot i) = asO ρ[i]? := by
    have ea : argO ρ (.slot i) = (ρ[i]?).join := rfl
    unfold argS asO
    rw [ea]
    cases ρ[i]? with
    | none => rfl
    | some o => cases o with
      | none => rfl
      | some o => cases o <;> rfl
  show ((argS ρ (.slot i)).bind fun x => (argsS ρ as).bind fun y => some (x :: y)) = _
  rw [e]
  cases asO ρ[i]? <;> cases argsS ρ as <;> rfl
theorem v_asod (d : PyData) : asO (some (some (.sh d))) = some (.sh d) := rfl
theorem v_ason (kvs : List (PyData × PyData)) : asO (some (some (.sn kvs))) = some (.sn kvs) := rfl
theorem v_asoc (ns : List Int) : asO (some (some (.sc ns))) = some (.sc ns) := rfl
def caR (ρ : Rho) : Res OD → Res OD
  | .ok r _ => .ok r ρ
  | .ex x _ => .ex x ρ
  | .bad => .bad
def caO (f : Fn) (os : Option (List OD)) : M OD := fun ρ => match os with
  | some os => caR ρ (f (os.map some))
  | none => .bad
theorem v_call (f : Fn) (ms : M (List Arg)) : mCall f ms ρ = (ms ρ).go fun as => fun ρ => caO f (argsS ρ as) ρ := by
  refine congrArg (Res.go (ms ρ)) (funext fun as => funext fun r => ?_)
  unfold caO
  cases argsS r as with
  | none => rfl
  | some os =>
    simp only
    cases f (List.map some os) <;> rfl
theorem v_caO (f : Fn) (os : List OD) : caO f (some os) ρ = caR ρ (f (os.map some)) := rfl
theorem v_caR (r : OD) (ρa : Rho) : caR ρ (.ok r ρa) = .ok r ρ := rfl
def lpK (t : Tgt) (b : M Out) (xs : List PyData) (x : Res Out) : Res Out := match x with
  | .ok .nx ρ => sLoop t b xs ρ
  | .ok .ct ρ => sLoop t b xs ρ
  | .ok .bk ρ => .ok .nx ρ
  | .ok (.rt r) ρ => .ok (.rt r) ρ
  | .ex x ρ => .ex x ρ
  | .bad => .bad
def lpO (t : Tgt) (b : M Out) (xs : List PyData) : Option Rho → Res Out
  | some ρ => lpK t b xs (b ρ)
  | none => .bad
theorem v_for (s : M (List PyData)) (t : Tgt) (b : M Out) : sFor s t b ρ = (s ρ).go fun xs => sLoop t b xs := rfl
theorem v_lp0 (t : Tgt) (b : M Out) : sLoop t b [] ρ = .ok .nx ρ := rfl
theorem v_lp1 (t : Tgt) (b : M Out) (x : PyData) (xs : List PyData) : sLoop t b (x :: xs) ρ = lpO t b xs (t x ρ) := by
  simp only [sLoop]
  cases t x ρ with
  | none => rfl
  | some r =>
    simp only [lpO, M.bind, lpK]
    cases b r with
    | ok o r2 => cases o <;> rfl
    | _ => rfl
theorem v_lpO (t : Tgt) (b : M Out) (xs : List PyData) : lpO t b xs (some ρ) = lpK t b xs (b ρ) := rfl
theorem v_lpn (t : Tgt) (b : M Out) (xs : List PyData) : lpK t b xs (.ok .nx ρ) = sLoop t b xs ρ := rfl
theorem v_lpr (t : Tgt) (b : M Out) (xs : List PyData) (r : OD) : lpK t b xs (.ok (.rt r) ρ) = .ok (.rt r) ρ := rfl
theorem v_tn (i : Nat) (d : PyData) : tName i d ρ = some (ρ.set i (some (.sh d))) := rfl
theorem v_sil (ds : List PyData) : seqItems (.list ds) = M.ret ds := rfl
theorem v_sit (ds : List PyData) : seqItems (.tuple ds) = M.ret ds := rfl
theorem v_par (i j : Nat) (ma mb : M OD) : sPar i j ma mb ρ = (ma ρ).go fun u => mb.bind fun w => fun ρ => .ok .nx ((ρ.set i (some u)).set j (some w)) := rfl
theorem v_un (m : M PyData) (t : Tgt) : sUn m t ρ = (m ρ).go fun d => fun ρ => Res.opt ((t d ρ).map fun _ => Out.nx) ((t d ρ).getD ρ) := by
  unfold sUn M.bind Res.go
  cases m ρ with
  | ok a r => simp only; cases t a r <;> rfl
  | _ => rfl
end
end Eg
local macro_rules | `(tactic| simp? only [$ls,*]) => `(tactic| simp -implicitDefEqProofs only [Eg.v_bind, Eg.v_go, Eg.v_ret, Eg.v_get, Eg.v_lift, Eg.v_opt, Eg.v_seq, Eg.v_sqn, Eg.v_sqr, Eg.v_sqb, Eg.v_sqc, Eg.v_set, Eg.v_sret, Eg.v_if, Eg.v_mif, Eg.v_next, Eg.v_expr, Eg.v_dat, Eg.v_slot, Eg.v_sd, Eg.v_so, Eg.v_m2, Eg.v_m2k, Eg.v_m1, Eg.v_m1k, Eg.v_mL, Eg.v_mLk, Eg.v_rl0, Eg.v_rl1, Eg.v_nil, Eg.v_cons, Eg.v_fix, Eg.v_fix0, Eg.v_fix1, Eg.v_fzs, Eg.v_fzo, Eg.v_ab, Eg.v_not, Eg.v_and, Eg.v_or, Eg.v_ai, Eg.v_fn, Eg.v_fin, Eg.v_fin2, Eg.v_kp0, Eg.v_kpt, Eg.v_kpf, Eg.v_slo, Eg.v_mslot, Eg.v_name, Eg.v_nms, Eg.v_nmo, Eg.v_take, Eg.v_tks, Eg.v_tko, Eg.v_has, Eg.v_hask, Eg.v_dget, Eg.v_dgk, Eg.v_dgo, Eg.v_put, Eg.v_putk, Eg.v_puto, Eg.v_app, Eg.v_apo, Eg.v_ol, Eg.v_olk, Eg.v_callO, Eg.v_coK, Eg.v_coO, Eg.v_coR, Eg.v_as0, Eg.v_asd, Eg.v_ass, Eg.v_asod, Eg.v_asoc, Eg.v_ason, Eg.v_call, Eg.v_caO, Eg.v_caR, Eg.v_for, Eg.v_lpO, Eg.v_lpn, Eg.v_lpr, Eg.v_tn, Eg.v_sil, Eg.v_sit, Eg.v_par, Eg.v_un, List.map_cons, List.map_nil, List.getElem?_cons_zero, List.getElem?_cons_succ, List.set_cons_zero, List.set_cons_succ, List.replicate_succ, List.replicate_zero, List.cons_append, List.nil_append, Option.bind_eq_bind, Option.bind_some, Option.map_some, if_true, Bool.false_eq_true, if_false, Bool.not_true, Bool.not_false, $ls,*])
namespace Eg
open PySem L2 PySem.W PySem.SeqAt
section
variable {ρ : Rho}
def scrK (x : Option (Option OD)) (l h : Option Int) : M OD := fun ρ => match x with
  | some (some (.sc ns)) => .ok (.ol (cutD (ns.map .int) l h)) ρ
  | _ => .bad
theorem v_scr (i : Nat) (l h : Option Int) : mScr i (M.ret l) (M.ret h) ρ = scrK ρ[i]? l h ρ := by
  unfold mScr scrK
  cases ρ[i]? with
  | none => rfl
  | some o => cases o with
    | none => rfl
    | some o => cases o <;> rfl
theorem v_pt63 (j : Int) : ((M.ret (PyData.int j)).bind fun d => (asInt d).bind fun i => M.ret (some i)) = M.ret (some j) := rfl
theorem v_scrk (ns : List Int) (l h : Option Int) : scrK (some (some (.sc ns))) l h ρ = .ok (.ol (cutD (ns.map .int) l h)) ρ := rfl
def whK (mt : M Bool) (b : M Out) (n : Nat) (x : Res Out) : Res Out := match x with
  | .ok .nx ρ => sWhile mt b n ρ
  | .ok .ct ρ => sWhile mt b n ρ
  | .ok .bk ρ => .ok .nx ρ
  | .ok (.rt r) ρ => .ok (.rt r) ρ
  | .ex x ρ => .ex x ρ
  | .bad => .bad
theorem v_wh (mt : M Bool) (b : M Out) (n : Nat) : sWhile mt b (n + 1) ρ = (mt ρ).go fun k => if k = true then (fun ρ => whK mt b n (b ρ)) else sNext := by
  refine congrArg (Res.go (mt ρ)) (funext fun k => ?_)
  cases k with
  | false => rfl
  | true =>
    simp only [if_true]
    funext r
    unfold whK
    show Res.go (b r) _ = _
    unfold Res.go
    cases b r with
    | ok o r2 => cases o <;> rfl
    | _ => rfl
theorem v_whn (mt : M Bool) (b : M Out) (n : Nat) : whK mt b n (.ok .nx ρ) = sWhile mt b n ρ := rfl
def popO (x : Option (Option OD)) (i : Nat) (d : PyData) : M PyData := fun ρ => match d, x with
  | .int j, some (some (.ol xs)) => if -(2 ^ 63) ≤ j ∧ j < 2 ^ 63 then (match seqIndex? j xs.length with
      | some k => (match xs[k]? with
        | some y => .ok y (ρ.set i (some (.ol (xs.eraseIdx k))))
        | none => .bad)
      | none => .bad) else .bad
  | _, _ => .bad
theorem v_pop (i : Nat) (m : M PyData) : mPopAt i m ρ = (m ρ).go fun d => fun ρ => popO ρ[i]? i d ρ := rfl
theorem v_popk {i : Nat} {xs : List PyData} {j : Int} (h0 : 0 ≤ j) (h1 : j < xs.length) (h2 : xs.length < 2 ^ 62) : ∃ y, xs[j.toNat]? = some y ∧ ∀ ρ, popO (some (some (.ol xs))) i (.int j) ρ = .ok y (ρ.set i (some (.ol (xs.eraseIdx j.toNat)))) := by
  have hl : j.toNat < xs.length := by omega
  refine ⟨xs[j.toNat], List.getElem?_eq_getElem hl, fun ρ => ?_⟩
  have e : seqIndex? j xs.length = some j.toNat := by
    have hn : ¬ j < 0 := by omega
    unfold seqIndex?
    simp [h0, h1, hn]
  unfold popO
  simp only
  rw [if_pos ⟨by omega, by omega⟩]
  simp only [e, List.getElem?_eq_getElem hl]
def cpK (x : Res (List PyData)) (ρ : Rho) (vs : List Nat) : Res OD := match x with
  | .ok acc ρ' => if ρ'.length = ρ.length then .ok (.ol acc) (restR ρ ρ' vs) else .bad
  | _ => .bad
theorem v_comp (s : M (List PyData)) (t : Tgt) (mt : M Bool) (me : M PyData) (vs : List Nat) : mComp s t mt me vs ρ = (s ρ).go fun xs => fun ρ => cpK (lcGo t mt me vs xs [] ρ) ρ vs := by
  refine congrArg (Res.go (s ρ)) (funext fun xs => funext fun r => ?_)
  unfold cpK
  cases lcGo t mt me vs xs [] r <;> rfl
theorem v_cpk (acc : List PyData) (ρ' : Rho) (vs : List Nat) (h : ρ'.length = ρ.length) : cpK (.ok acc ρ') ρ vs = .ok (.ol acc) (restR ρ ρ' vs) := if_pos h
theorem v_rs1 (ρ0 : Rho) (v : Nat) (vs : List Nat) : restR ρ0 ρ (v :: vs) = (restR ρ0 ρ vs).set v (ρ0[v]?.join) := rfl
theorem v_sl (ma : M Arg) (ml mh : M (Option Int)) : mSl ma ml mh ρ = (ma ρ).go fun a => ml.bind fun l => mh.bind fun h => fun ρ => Res.opt ((res1 ρ a).bind fun d => gSl d l h) ρ := by
  refine congrArg (Res.go (ma ρ)) (funext fun a => funext fun r => congrArg (Res.go (ml r)) (funext fun l => funext fun r2 => congrArg (Res.go (mh r2)) (funext fun h => funext fun r3 => v_lift _)))
end
end Eg
namespace Eg
open PySem L2 PySem.W PySem.SeqAt
theorem rAs.append {K : Kw} {F : Hp} {σ : St} : ∀ {vs ws : List V} {as bs : List Arg}, rAs K F σ vs as → rAs K F σ ws bs → rAs K F σ (vs ++ ws) (as ++ bs)
  | _, _, _, _, .nil, h => h
  | _, _, _, _, .dat d t, h => .dat d (rAs.append t h)
  | _, _, _, _, .slot d t, h => .slot d (rAs.append t h)
  | _, _, _, _, .fr d t, h => .fr d (rAs.append t h)
def mApp (ms mk : M (List Arg)) : M (List Arg) := ms.bind fun as => mk.bind fun bs => M.ret (as ++ bs)
section
variable [Tbs] {X : Cx} {C : Ct} {e a b : Expr} {es : List Expr} {pos p kpos : Pos} {k : Nat} {f : Addr} {fd : FuncData} {ps ks : List Str} {x : Str} {n n1 n2 : Nat} {m : Fn} {kws : List Keyword} {nm : Option Str}
theorem k_nil : PK X [] (tL C mNil) := ⟨fun pos pins s σ H Q I ⟨F, ρ, sr, p⟩ => pk_nil.run pos pins s σ H Q I (p F H [] Grow.refl sr .nil)⟩
theorem k_cons {ma : M Arg} {ms : M (List Arg)} (ha : PE X e (tA C ma)) (hr : PK X kws (tL C ms)) : PK X (⟨nm, e, kpos⟩ :: kws) (tL C (mCons ma ms)) := by
  refine ⟨fun pos pins s σ H Q I ⟨F, ρ, sr, p⟩ => (pk_cons ha hr).run pos pins s σ H Q I ?_⟩
  refine one sr stb_L p fun x a ρ1 F1 H1 s1 g1 r1 q1 => ?_
  refine ⟨F1, ρ1, s1, q1.part fun as ρ2 F2 H2 xs e2 q2 g2 s2 r2 => ?_⟩
  refine q2 F2 H2 (x :: xs) g2 s2 ?_
  cases a with
  | dat d => exact .dat (DV.mono g2.ext r1) r2
  | slot i => exact .slot r1 r2
  | fr kvs =>
    obtain ⟨b, L, h1, h2, h3⟩ := r1
    exact .fr ⟨b, L, h1, h2.mono g2.ext, KN.mono g2.ext h3⟩ r2
def BindsK (K : PySem.W.Frag) (fd : FuncData) (ps ks : List Str) (n1 n2 : Nat) : Prop := ∀ (s : Shared) (us ws : List Value), K.In s.heap → us.length = n1 → ws.length = n2 → BindsTo s fd ⟨us, ks.zip ws⟩ (ps.zip (us ++ ws))
theorem o_fnK {ms mk : M (List Arg)} (F : FnG X.prog X.w X.K X.mg X.base (L2.CX X.prog X.w) k f fd ps (spI X.K X.w X.mg C.XR (n1 + n2) m)) (hG : X.A.guards = some []) (hr : Room k X.A) (hg : Gl X x) (hm : X.mg x = some (.ref f)) (hk : PySem.W.keepIn X.K (.ref f) = true) (hb : BindsK X.K fd ps ks n1 n2) (tk : Takes X C.W) (ha : PA X (e :: es) (tL C ms)) (hkw : PK X kws (tL C mk))
    (h1 : LenOk ms n1) (h2 : LenOk mk n2) (hall : (backToKw pos (keywordEach kws X.env)).all (·.1.isSome) = true := by rfl) (hks : (backToKw pos (keywordEach kws X.env)).filterMap (·.1) = ks := by rfl)
    (hdb : (x == ("__debug__" : Str)) = false := by decide) (he : starEach (e :: es) X.env = (false, eval e X.env) :: starEach es X.env := by rfl)
    (hpl : ((backTo pos (starEach (e :: es) X.env)).any (·.1) || (backToKw pos (keywordEach kws X.env)).any (·.1.isNone)) = false := by rfl) (hK : (⟨X.K, X.w, X.mg, none, none⟩ : Kw) = C.K := by rfl) : PE X (.Call (.Name x p) (e :: es) kws pos) (tO C (mCall m (mApp ms mk))) := by
  refine ⟨fun pins s σ H Q I ⟨F0, ρ, sr, pp⟩ => ?_⟩
  refine wpAny_Call_Name_kw (ld_glob I hg hm ?_ hdb)
  -- what is asked of the values
  have go : tL C ms σ H fun vs H1 => tL C mk σ H1 fun zs H2 => (vs.length = n1 ∧ zs.length = n2) ∧ spI X.K X.w X.mg C.XR (n1 + n2) m (vs ++ zs) H2 Q (WE C.W σ) := by
    refine ⟨F0, ρ, sr, ?_⟩
    have pp' : PostE C (rO C.K) σ ρ F0 H Q ((ms.bind fun as => mk.bind fun bs => fun ρ => match argsS ρ (as ++ bs) with
      | some os => (match m (os.map some) with
        | .ok r _ => .ok r ρ
        | .ex x _ => .ex x ρ
        | .bad => .bad)
      | none => .bad) ρ) := by
      have e : mCall m (mApp ms mk) ρ = (ms.bind fun as => mk.bind fun bs => fun ρ => match argsS ρ (as ++ bs) with
        | some os => (match m (os.map some) with
          | .ok r _ => .ok r ρ
          | .ex x _ => .ex x ρ
          | .bad => .bad)
        | none => .bad) ρ := by
        unfold mCall mApp M.bind M.ret
        cases ms ρ with
        | ok as ρ1 =>
          simp only
          cases mk ρ1 <;> rfl
        | _ => rfl
      rw [e] at pp
      exact pp
    refine PostE.part (RA := rL C.K) pp' fun as ρ1 F1 H1 xs e1 q1 g1 s1 r1 => ?_
    have q1 := q1.on stb_O g1
    refine ⟨F1, ρ1, s1, PostE.part (RA := rL C.K) q1 fun bs ρ2 F2 H2 zs e2 q2 g2 s2 r2 => ?_⟩
    have q2 := q2.on stb_O g2
    have l1 : xs.length = n1 := by rw [r1.len]; exact h1 _ _ _ e1
    have l2 : zs.length = n2 := by rw [r2.len]; exact h2 _ _ _ e2
    refine ⟨⟨l1, l2⟩, ?_⟩
    have ra := (rAs.mono g2.ext r1).append r2
    cases ea : argsS ρ2 (as ++ bs) with
    | none => simp only [ea] at q2; exact q2.elim
    | some os =>
      simp only [ea] at q2
      obtain ⟨k1, k2⟩ := argsS_at s2 ra ea
      obtain ⟨sa, no⟩ := SR.args s2 k1 k2
      refine ⟨by rw [List.length_append, l1, l2], F2, os, (show (⟨X.K, X.w, X.mg, none, none⟩ : Kw) = C.K from hK) ▸ sa, ?_⟩
      rw [show (⟨X.K, X.w, X.mg, none, none⟩ : Kw) = C.K from hK]
      cases e3 : m (os.map some) with
      | bad => simp only [e3] at q2; exact q2.elim
      | ok r ρa =>
        simp only [e3] at q2
        intro F' H' v g' s' ro
        obtain ⟨s3, g3⟩ := s2.after0 no g' s'.sub s'.tb
        refine q2 F' H' v g3 s3 ⟨ro.1, fun io a ea => ?_⟩
        have hn : H2 a = none := ((ro.2 io a ea).2).resolve_right (no a)
        refine ⟨fun z => ?_, .inl hn⟩
        obtain ⟨_, u, hu⟩ := own.at s2 z
        rw [hn] at hu; cases hu
      | ex y ρa =>
        simp only [e3] at q2
        intro F' H' cls d g' s' xr
        obtain ⟨s3, g3⟩ := s2.after0 no g' s'.sub s'.tb
        exact q2 F' H' cls d g3 s3 xr
  refine PySem.W.callWith_KW (h₀ := X.base) I.ok.mod.kin hk hall (thn (ha.run pos pins s σ H _ I go) fun us s1 ⟨vs, H1, I1, r, q⟩ => ?_) hpl he
  refine thn (hkw.run pos pins s1 σ H1 _ I1 q) fun ws s2 ⟨zs, H2, I2, rz, ⟨l1, l2⟩, q2⟩ => ⟨I2.kIn, ?_⟩
  rw [hks]
  have bt := hb s2 us ws I2.kIn (by rw [← r.length]; exact l1) (by rw [← rz.length]; exact l2)
  refine wpAny_call (codeAny_mono (F.run X.A X.stack s2 H2 ⟨us, ks.zip ws⟩ (us ++ ws) (vs ++ zs) Q (WE C.W σ) hG hr I2.env0 bt (r.append rz) q2) fun res s' q => ?_)
  match res, q with
  | .error e, q => exact passAt tk σ pins H2 s2 e s' I2 q
  | .ok (.ret u), q => exact I2.after q
def negD : PyData → M PyData
  | .int i => M.ret (.int (-i))
  | _ => M.bad
theorem d_neg {ma : M PyData} (ha : PE X a (tD C ma)) : PE X (.UnaryOp .USub a pos) (tD C (ma.bind negD)) :=
  (pe_un un_neg ha).imp fun σ H Q ⟨F, ρ, sr, p⟩ => ⟨F, ρ, sr, p.part fun d ρ1 F1 H1 x e1 q1 g1 s1 r1 => by
    have q1 := q1.on stb_D g1
    cases r1 with
    | int i => exact ⟨i, rfl, q1 F1 H1 _ Grow.refl s1 (.int _)⟩
    | _ => exact q1.elim⟩
end
theorem v_app2 {ρ : Rho} (ms mk : M (List Arg)) : mApp ms mk ρ = (ms ρ).go fun as => mk.bind fun bs => M.ret (as ++ bs) := rfl
end Eg
namespace Eg
open PySem L2 PySem.W PySem.SeqAt
theorem v_andV {ρ : Rho} (ma mb : M PyData) : mAndV ma mb ρ = (ma ρ).go fun d => (asBool d).bind fun b => if b = true then mb else M.ret (.bool false) := rfl
theorem v_orV {ρ : Rho} (ma mb : M PyData) : mOrV ma mb ρ = (ma ρ).go fun d => (asBool d).bind fun b => if b = true then M.ret (.bool true) else mb := rfl
theorem v_notV {ρ : Rho} (ma : M PyData) : mNotV ma ρ = (ma ρ).go fun d => (asBool d).bind fun b => M.ret (.bool (!b)) := rfl
theorem v_neg (i : Int) : negD (.int i) = M.ret (.int (-i)) := rfl
end Eg
namespace Eg
open PySem L2 PySem.W PySem.SeqAt
theorem textFrom_most : ∀ (ts : List Str) (k : Nat) (acc : Str), (textFrom k acc ts).length ≤ acc.length + piled ts
  | [], k, acc => by show acc.length ≤ acc.length + _; omega
  | t :: ts, k, acc => by
    have ih := textFrom_most ts (k + 1) (acc ++ (if k > 0 then ", " else "" : String) ++ t)
    have e : (acc ++ (if k > 0 then ", " else "" : String) ++ t).length ≤ acc.length + 2 + t.length := by
      rw [strLen_append, strLen_append]
      have h0 : (("" : String) : Str).length = 0 := rfl
      have h2 : ((", " : String) : Str).length = 2 := rfl
      split <;> omega
    rw [piled_cons]
    show (textFrom (k + 1) (acc ++ (if k > 0 then ", " else "" : String) ++ t) ts).length ≤ _
    omega
theorem listText_most (ts : List Str) : (listText ts).length ≤ piled ts + 2 := by
  have h := textFrom_most ts 0 "["
  have h1 : (("[" : String) : Str).length = 1 := rfl
  have h2 : (("]" : String) : Str).length = 1 := rfl
  unfold listText
  rw [strLen_append]
  omega
theorem tupleText_most (ts : List Str) : (tupleText ts).length ≤ piled ts + 3 := by
  have h1 : (("(" : String) : Str).length = 1 := rfl
  have h2 : ((",)" : String) : Str).length = 2 := rfl
  have h3 : ((")" : String) : Str).length = 1 := rfl
  have hj : (Str.join ", " ts).length ≤ piled ts := by
    cases ts with
    | nil => exact Nat.zero_le _
    | cons t ts => have := join_length_add (t :: ts) (List.cons_ne_nil _ _); omega
  unfold tupleText
  rw [strLen_append, strLen_append]
  split <;> omega
theorem piled_le (n : Nat) : ∀ {ds : List PyData}, (∀ d ∈ ds, d.shown.length ≤ n) → piled (PyData.shownAll ds) ≤ (n + 2) * ds.length
  | [], _ => by rw [PyData.shownAll]; exact Nat.zero_le _
  | d :: ds, h => by
    have ih := piled_le n (ds := ds) fun x hx => h x (List.mem_cons_of_mem _ hx)
    have h0 := h d List.mem_cons_self
    rw [PyData.shownAll, piled_cons, List.length_cons, Nat.mul_add]
    omega
theorem showable_all : ∀ {ds : List PyData}, (∀ d ∈ ds, d.showable = true) → PyData.showableAll ds = true
  | [], _ => by rw [PyData.showableAll]
  | d :: ds, h => by
    rw [PyData.showableAll, h d List.mem_cons_self, showable_all fun x hx => h x (List.mem_cons_of_mem _ hx)]
    rfl
theorem depth_all (n : Nat) : ∀ {ds : List PyData}, (∀ d ∈ ds, d.depth ≤ n) → PyData.depthAll ds ≤ n
  | [], _ => by rw [PyData.depthAll]; exact Nat.zero_le _
  | d :: ds, h => by
    rw [PyData.depthAll]
    exact Nat.max_le.mpr ⟨h d List.mem_cons_self, depth_all n fun x hx => h x (List.mem_cons_of_mem _ hx)⟩
def Sh (n k : Nat) (d : PyData) : Prop := d.showable = true ∧ d.shown.length ≤ n ∧ d.depth ≤ k
theorem Sh.str {x : Str} {n : Nat} (h : (reprText x).length ≤ n) : Sh n 0 (.str x) := ⟨by rw [PyData.showable], by rw [PyData.shown]; exact h, by rw [PyData.depth]; exact Nat.le_refl _⟩
theorem Sh.list {n k m : Nat} {ds : List PyData} (h : ∀ d ∈ ds, Sh n k d) (hm : ds.length ≤ m) : Sh ((n + 2) * m + 3) (k + 1) (.list ds) := by
  refine ⟨?_, ?_, ?_⟩
  · rw [PyData.showable]; exact showable_all fun d hd => (h d hd).1
  · rw [PyData.shown]
    have h1 := listText_most (PyData.shownAll ds)
    have h2 := piled_le n fun d hd => (h d hd).2.1
    have h3 := Nat.mul_le_mul_left (n + 2) hm
    omega
  · rw [PyData.depth]
    have := depth_all k fun d hd => (h d hd).2.2
    omega
theorem Sh.tuple {n k m : Nat} {ds : List PyData} (h : ∀ d ∈ ds, Sh n k d) (hm : ds.length ≤ m) : Sh ((n + 2) * m + 3) (k + 1) (.tuple ds) := by
  refine ⟨?_, ?_, ?_⟩
  · rw [PyData.showable]; exact showable_all fun d hd => (h d hd).1
  · rw [PyData.shown]
    have h1 := tupleText_most (PyData.shownAll ds)
    have h2 := piled_le n fun d hd => (h d hd).2.1
    have h3 := Nat.mul_le_mul_left (n + 2) hm
    omega
  · rw [PyData.depth]
    have := depth_all k fun d hd => (h d hd).2.2
    omega
theorem Sh.repr {n k : Nat} {d : PyData} (h : Sh n k d) (hn : n ≤ 16777216) (hk : k ≤ 60) : gRepr [d] = some (.sh (.str d.shown)) := by
  have z := sizeLine_eq
  have hs : small d = true := decide_eq_true (Nat.le_trans h.2.2 hk)
  have hl : d.shown.length ≤ sizeLine := by have := h.2.1; omega
  simp only [gRepr]
  rw [if_pos ⟨h.1, hl, hs⟩]
end Eg
namespace Eg
open PySem L2 PySem.W PySem.SeqAt
section
variable [Tbs] {X : Cx} {C : Ct} {e a b c o tg iter : Expr} {es : List Expr} {pos p p1 p2 apos cpos pos' : Pos} {P : List Nat} {σ σ1 : St} {ρ ρ1 : Rho} {F H F1 H1 : Hp}
def tyName : PyData → Option String
  | .none => some "NoneType"
  | .bool _ => some "bool"
  | .int _ => some "int"
  | .str _ => some "str"
  | .list _ => some "list"
  | .tuple _ => some "tuple"
  | _ => Option.none
def gTyIs (T : String) (d : PyData) : Option PyData := (tyName d).map fun U => .bool (decide (U = T))
def gTyNot (T : String) (d : PyData) : Option PyData := (tyName d).map fun U => .bool (!decide (U = T))
def gIsB (k : Bool) : PyData → Option PyData
  | .bool b => some (.bool (decide (b = k)))
  | _ => none
def gNotB (k : Bool) : PyData → Option PyData
  | .bool b => some (.bool (!decide (b = k)))
  | _ => none
def boolsOf : List PyData → Option (List Bool)
  | [] => some []
  | .bool b :: ds => (boolsOf ds).map (b :: ·)
  | _ => none
theorem bools_at {K : Kw} {H : Hp} : ∀ {vs : List V} {ds : List PyData} {bs : List Bool}, DVs K H vs ds → boolsOf ds = some bs → vs = bs.map V.bl
  | _, _, bs, .nil, e => by cases e; rfl
  | _, _, bs, .cons (d := d) h t, e => by
    cases d with
    | bool b =>
      cases h
      simp only [boolsOf] at e
      rename_i ds
      cases q : boolsOf ds with
      | none => rw [q] at e; cases e
      | some cs => rw [q] at e; cases e; rw [bools_at t q]; rfl
    | _ => simp [boolsOf] at e
def gAny : List PyData → Option OD
  | [.list ds] => (boolsOf ds).map fun bs => .sh (.bool (bs.any id))
  | _ => none
theorem co_any (hc : X.calm = true) : CallO X (.builtin "any") gAny := callO_of (cr_any hc) fun F H xs ds o Q sub vw e q => by
  match ds, vw, e with
  | [.list ds], .cons h .nil, e =>
    simp only [gAny] at e
    cases q1 : boolsOf ds with
    | none => rw [q1] at e; cases e
    | some bs =>
      rw [q1] at e; cases e
      obtain ⟨p, vs, rfl, h1, h2⟩ := h
      have := bools_at h2 q1
      subst this
      exact ⟨p, bs, rfl, SqL.of h1, q _ _ _ (.asis (.bl _))⟩
theorem b_any : bootBuiltins "any" = some (.builtin "any") := by decide +kernel
def mOp2 (g : PyData → PyData → Option PyData) (x y : PyData) : M PyData := M.lift (g x y)
def mChain (g g' : PyData → PyData → Option PyData) (ma mb mc : M PyData) : M PyData := ma.bind fun x => mb.bind fun y => (mOp2 g x y).bind fun d => (asBool d).bind fun k => if k = true then mc.bind fun z => mOp2 g' y z else M.ret (.bool false)
def strItems (x : Str) : List PyData := x.cps.toList.map fun c => .str ⟨#[c]⟩
def txtItems : PyData → M (List PyData)
  | .str x => M.ret (strItems x)
  | _ => M.bad
end
section
variable {ρ : Rho}
theorem v_chain (g g' : PyData → PyData → Option PyData) (ma mb mc : M PyData) : mChain g g' ma mb mc ρ = (ma ρ).go fun x => mb.bind fun y => (mOp2 g x y).bind fun d => (asBool d).bind fun k => if k = true then mc.bind fun z => mOp2 g' y z else M.ret (.bool false) := rfl
theorem v_op2 (g : PyData → PyData → Option PyData) (x y : PyData) : mOp2 g x y ρ = Res.opt (g x y) ρ := v_lift _
theorem v_txt (x : Str) : txtItems (.str x) = M.ret (strItems x) := rfl
end
end Eg
namespace Eg
open PySem L2 PySem.W PySem.SeqAt
section
variable [Tbs] {X : Cx} {C : Ct} {e a b c o tg iter : Expr} {es : List Expr} {pos p p1 p2 apos cpos pos' : Pos} {P : List Nat} {σ σ1 : St} {ρ ρ1 : Rho} {F H F1 H1 : Hp}
def truOf : PyData → Option Bool
  | .none => some false
  | .bool b => some b
  | .int i => some (i != 0)
  | .str x => if x.length ≤ sizeLine then some ((x.length : Int) != 0) else Option.none
  | .list ds => some (!ds.isEmpty)
  | .tuple ds => some (!ds.isEmpty)
  | _ => Option.none
def truD (d : PyData) : M Bool := M.lift (truOf d)
theorem DV.tru {K : Kw} {v : V} {d : PyData} {k : Bool} (h : DV K F v d) (s : Same F H) (e : truOf d = some k) : TruV K v H k := by
  cases h with
  | non => cases e; rfl
  | bl b => cases e; rfl
  | int i => cases e; rfl
  | str x =>
    simp only [truOf] at e
    split at e <;> cases e
    exact ⟨by assumption, rfl⟩
  | lst h1 h2 => cases e; exact .inl ⟨_, SqL.of (s _ _ h1), by cases h2 <;> rfl⟩
  | tup h1 h2 => cases e; exact .inr (.inl ⟨_, s.sqT h1, by cases h2 <;> rfl⟩)
theorem t_tru {m : M PyData} (h : PE X e (tD C m)) (hK : X.KW = C.K := by rfl) (he : ∀ whole, isTrue e X.env whole = (do let v ← whole; standAt e.pos; holding [v] (truthy v)) := by intro _; rfl) : PT X e (tT C (m.bind truD)) :=
  (pt_truth h he).imp fun σ H Q ⟨F, ρ, sr, p⟩ => ⟨F, ρ, sr, p.part fun d ρ1 F1 H1 x e1 q1 g1 s1 r1 => by
    have q1 := q1.on stb_T g1
    unfold truD at q1
    cases ek : truOf d with
    | none => rw [ek] at q1; exact q1.elim
    | some k => rw [ek] at q1; rw [show X.K = C.K.fr from congrArg Kw.fr hK]; exact ⟨k, DV.tru r1 s1.sub ek, q1 F1 H1 k Grow.refl s1 rfl⟩⟩
end
section
variable {ρ : Rho}
theorem v_truB (b : Bool) : truD (.bool b) = M.ret b := rfl
theorem v_truI (i : Int) : truD (.int i) = M.ret (i != 0) := rfl
theorem v_truL (ds : List PyData) : truD (.list ds) = M.ret (!ds.isEmpty) := rfl
theorem v_truT (ds : List PyData) : truD (.tuple ds) = M.ret (!ds.isEmpty) := rfl
theorem v_truN : truD .none = M.ret false := rfl
end
end Eg
namespace Eg
open PySem L2 PySem.W PySem.SeqAt
theorem restR_at {ρ0 ρ : Rho} {j : Nat} (hl : ρ.length = ρ0.length) : ∀ {vs : List Nat}, j ∈ vs → (restR ρ0 ρ vs)[j]? = ρ0[j]?
  | v :: vs, h => by
    rw [v_rs1]
    by_cases e : v = j
    · subst e
      by_cases q : v < ρ0.length
      · rw [List.getElem?_set_self (by rw [restR_len, hl]; exact q), List.getElem?_eq_getElem q]; rfl
      · rw [List.getElem?_eq_none (by rw [List.length_set, restR_len, hl]; omega), List.getElem?_eq_none (by omega)]
    · rw [List.getElem?_set_ne e]
      rcases List.mem_cons.mp h with z | z
      · exact absurd z.symm e
      · exact restR_at hl z
theorem restR_self {ρ0 ρ : Rho} {vs : List Nat} (h : wipeR ρ vs = wipeR ρ0 vs) : restR ρ0 ρ vs = ρ0 := by
  have hl : ρ.length = ρ0.length := by rw [← wipeR_len ρ vs, h, wipeR_len]
  refine List.ext_getElem? fun j => ?_
  by_cases q : j ∈ vs
  · exact restR_at hl q
  · rw [restR_out q, ← wipeR_out (ρ := ρ) q, h, wipeR_out q]
section
variable {α : Type} {src : M (List PyData)} {t : Tgt} {mt : M Bool} {me : M PyData} {vs : List Nat} {ρ ρ0 : Rho}
theorem lc_mapT {Inv : Rho → Prop} (f g : α → PyData) : ∀ (xs : List α) (acc : List PyData) (ρ : Rho), Inv ρ → acc.length + xs.length ≤ sizeLine →
    (∀ x ∈ xs, ∀ ρ, Inv ρ → ∃ ρ1 ρ2, t (f x) (wipeR ρ vs) = some ρ1 ∧ me ρ1 = .ok (g x) ρ2 ∧ Inv ρ2) → ∃ ρ', Inv ρ' ∧ lcGo t (M.ret true) me vs (xs.map f) acc ρ = .ok (acc ++ xs.map g) ρ'
  | [], acc, ρ, i, _, _ => ⟨ρ, i, by rw [List.map_nil, List.map_nil, List.append_nil]; rfl⟩
  | x :: xs, acc, ρ, i, hl, h => by
    obtain ⟨ρ1, ρ2, e1, e2, i2⟩ := h x List.mem_cons_self ρ i
    rw [List.length_cons] at hl
    obtain ⟨ρ', i', e'⟩ := lc_mapT f g xs (acc ++ [g x]) ρ2 i2 (by rw [List.length_append, List.length_singleton]; omega) fun y hy => h y (List.mem_cons_of_mem _ hy)
    refine ⟨ρ', i', ?_⟩
    rw [List.map_cons]
    simp only [lcGo, e1, M.ret, e2]
    rw [if_pos (by omega), e', List.map_cons, List.append_assoc]
    rfl
theorem lc_filtT {Inv : Rho → Prop} (f : α → PyData) (b : α → Bool) (g : α → PyData) : ∀ (xs : List α) (acc : List PyData) (ρ : Rho), Inv ρ → acc.length + xs.length ≤ sizeLine →
    (∀ x ∈ xs, ∀ ρ, Inv ρ → ∃ ρ1 ρ2, t (f x) (wipeR ρ vs) = some ρ1 ∧ mt ρ1 = .ok (b x) ρ2 ∧ (b x = false → Inv ρ2) ∧ (b x = true → ∃ ρ3, me ρ2 = .ok (g x) ρ3 ∧ Inv ρ3)) → ∃ ρ', Inv ρ' ∧ lcGo t mt me vs (xs.map f) acc ρ = .ok (acc ++ (xs.filter b).map g) ρ'
  | [], acc, ρ, i, _, _ => ⟨ρ, i, by rw [List.filter_nil, List.map_nil, List.map_nil, List.append_nil]; rfl⟩
  | x :: xs, acc, ρ, i, hl, h => by
    obtain ⟨ρ1, ρ2, e1, e2, k1, k2⟩ := h x List.mem_cons_self ρ i
    rw [List.length_cons] at hl
    rw [List.map_cons]
    cases q : b x with
    | false =>
      obtain ⟨ρ', i', e'⟩ := lc_filtT f b g xs acc ρ2 (k1 q) (by omega) fun y hy => h y (List.mem_cons_of_mem _ hy)
      refine ⟨ρ', i', ?_⟩
      rw [q] at e2
      simp only [lcGo, e1, e2]
      rw [e', List.filter_cons, q]
      rfl
    | true =>
      obtain ⟨ρ3, e3, i3⟩ := k2 q
      obtain ⟨ρ', i', e'⟩ := lc_filtT f b g xs (acc ++ [g x]) ρ3 i3 (by rw [List.length_append, List.length_singleton]; omega) fun y hy => h y (List.mem_cons_of_mem _ hy)
      refine ⟨ρ', i', ?_⟩
      rw [q] at e2
      simp only [lcGo, e1, e2, e3]
      rw [if_pos (by omega), e', List.filter_cons, q, List.append_assoc]
      rfl
theorem comp_pure {l : List α} {f : α → PyData} (g : α → PyData) (hs : src ρ = .ok (l.map f) ρ0) (hl : l.length ≤ sizeLine)
    (step : ∀ x ∈ l, ∃ ρ1 ρ2, t (f x) (wipeR ρ0 vs) = some ρ1 ∧ me ρ1 = .ok (g x) ρ2 ∧ wipeR ρ2 vs = wipeR ρ0 vs) : mComp src t (M.ret true) me vs ρ = .ok (.ol (l.map g)) ρ0 := by
  obtain ⟨ρ', i, e⟩ := lc_mapT (Inv := fun r => wipeR r vs = wipeR ρ0 vs) f g l [] ρ0 rfl (by rw [List.length_nil]; omega) fun x hx r hr => by
    obtain ⟨ρ1, ρ2, e1, e2, e3⟩ := step x hx
    exact ⟨ρ1, ρ2, by rw [hr]; exact e1, e2, e3⟩
  rw [v_comp, hs, v_go, e, v_cpk _ _ _ (by rw [← wipeR_len ρ' vs, i, wipeR_len]), restR_self i, List.nil_append]
theorem comp_filt {l : List α} {f : α → PyData} (b : α → Bool) (g : α → PyData) (hs : src ρ = .ok (l.map f) ρ0) (hl : l.length ≤ sizeLine)
    (step : ∀ x ∈ l, ∃ ρ1 ρ2, t (f x) (wipeR ρ0 vs) = some ρ1 ∧ mt ρ1 = .ok (b x) ρ2 ∧ wipeR ρ2 vs = wipeR ρ0 vs ∧ (b x = true → ∃ ρ3, me ρ2 = .ok (g x) ρ3 ∧ wipeR ρ3 vs = wipeR ρ0 vs)) : mComp src t mt me vs ρ = .ok (.ol ((l.filter b).map g)) ρ0 := by
  obtain ⟨ρ', i, e⟩ := lc_filtT (Inv := fun r => wipeR r vs = wipeR ρ0 vs) f b g l [] ρ0 rfl (by rw [List.length_nil]; omega) fun x hx r hr => by
    obtain ⟨ρ1, ρ2, e1, e2, e3, e4⟩ := step x hx
    exact ⟨ρ1, ρ2, by rw [hr]; exact e1, e2, fun _ => e3, e4⟩
  rw [v_comp, hs, v_go, e, v_cpk _ _ _ (by rw [← wipeR_len ρ' vs, i, wipeR_len]), restR_self i, List.nil_append]
variable {b : M Out}
theorem loop_inv {f : α → PyData} (Inv : List α → Rho → Prop) (step : ∀ x rest ρ, Inv (x :: rest) ρ → ∃ ρ1 ρ2, t (f x) ρ = some ρ1 ∧ (b ρ1 = .ok .nx ρ2 ∨ b ρ1 = .ok .ct ρ2) ∧ Inv rest ρ2) : ∀ (l : List α) (ρ : Rho), Inv l ρ → ∃ ρ', sLoop t b (l.map f) ρ = .ok .nx ρ' ∧ Inv [] ρ'
  | [], ρ, i => ⟨ρ, rfl, i⟩
  | x :: l, ρ, i => by
    obtain ⟨ρ1, ρ2, e1, e2, i2⟩ := step x l ρ i
    obtain ⟨ρ', e', i'⟩ := loop_inv Inv step l ρ2 i2
    refine ⟨ρ', ?_, i'⟩
    rw [List.map_cons, v_lp1, e1, v_lpO]
    rcases e2 with e2 | e2 <;> rw [e2] <;> exact e'
end
theorem gEq_refl {d : PyData} (h : alike d d = true) (s : small d = true) : gEq d d = some (.bool true) := by
  unfold gEq
  rw [if_pos s, eqv_refl_alike d h]
theorem gNe_refl {d : PyData} (h : alike d d = true) (s : small d = true) : gNe d d = some (.bool false) := by
  unfold gNe
  rw [if_pos s, eqv_refl_alike d h]
  rfl
end Eg
namespace Eg
open PySem L2 PySem.W PySem.SeqAt
def tLst (ts : List Tgt) : Tgt := fun d ρ => match d with
  | .list ds => tTup.go ts ds ρ
  | _ => none
theorem v_tt (ts : List Tgt) (ds : List PyData) (ρ : Rho) : tTup ts (.tuple ds) ρ = tTup.go ts ds ρ := rfl
theorem v_tl (ts : List Tgt) (ds : List PyData) (ρ : Rho) : tLst ts (.list ds) ρ = tTup.go ts ds ρ := rfl
theorem v_go0 (ρ : Rho) : tTup.go [] [] ρ = some ρ := rfl
theorem v_go1 (t : Tgt) (ts : List Tgt) (d : PyData) (ds : List PyData) (ρ : Rho) : tTup.go (t :: ts) (d :: ds) ρ = (t d ρ).bind fun ρ' => tTup.go ts ds ρ' := rfl
end Eg
namespace Eg
open PySem L2 PySem.W PySem.SeqAt
def Fd (n k : Nat) (d : PyData) : Prop := Sh n k d ∧ alike d d = true
theorem _root_.Eg.Sh.mono' {n m k l : Nat} {d : PyData} (h : Sh n k d) (hn : n ≤ m) (hk : k ≤ l) : Sh m l d := ⟨h.1, Nat.le_trans h.2.1 hn, Nat.le_trans h.2.2 hk⟩
theorem Fd.mono {n m k l : Nat} {d : PyData} (h : Fd n k d) (hn : n ≤ m) (hk : k ≤ l) : Fd m l d := ⟨h.1.mono' hn hk, h.2⟩
theorem Fd.str {x : Str} {n : Nat} (h : (reprText x).length ≤ n) : Fd n 0 (.str x) := ⟨Sh.str h, by simp [alike]⟩
theorem Fd.bool (b : Bool) : Fd 5 0 (.bool b) := ⟨by cases b <;> exact ⟨by rw [PyData.showable], by decide +kernel, by rw [PyData.depth]; exact Nat.le_refl _⟩, by simp [alike]⟩
theorem Fd.none : Fd 4 0 .none := ⟨⟨by rw [PyData.showable], by decide +kernel, by rw [PyData.depth]; exact Nat.le_refl _⟩, by simp [alike]⟩
theorem Fd.int {i : Int} {n : Nat} (h : i.natAbs < 10 ^ n) (h0 : 0 < n := by decide) (hn : n ≤ 400 := by decide) : Fd (n + 1) 0 (.int i) := by
  refine ⟨⟨?_, ?_, by rw [PyData.depth]; exact Nat.le_refl _⟩, by simp [alike]⟩
  · rw [PyData.showable]
    refine decide_eq_true ?_
    by_cases z : i.natAbs = 0
    · rw [z]; decide
    · have h2 : (10 : Nat) ^ n ≤ 2 ^ (4 * n) := by
        rw [Nat.pow_mul]
        exact Nat.pow_le_pow_left (by decide) n
      have := (Nat.log2_lt z).mpr (Nat.lt_of_lt_of_le h h2)
      omega
  · rw [PyData.shown]
    show (Str.ofString (toString i)).length ≤ n + 1
    rw [ofString_length]
    exact int_text_length_le10 h0 h
theorem alikeAll_self : ∀ {ds : List PyData}, (∀ d ∈ ds, alike d d = true) → alikeAll ds ds = true
  | [], _ => by simp [alikeAll]
  | d :: ds, h => by
    rw [alikeAll, h d List.mem_cons_self, alikeAll_self fun x hx => h x (List.mem_cons_of_mem _ hx)]
    rfl
theorem Fd.list {n k m : Nat} {ds : List PyData} (h : ∀ d ∈ ds, Fd n k d) (hm : ds.length ≤ m) : Fd ((n + 2) * m + 3) (k + 1) (.list ds) := ⟨Sh.list (fun d hd => (h d hd).1) hm, by rw [alike]; exact alikeAll_self fun d hd => (h d hd).2⟩
theorem Fd.tuple {n k m : Nat} {ds : List PyData} (h : ∀ d ∈ ds, Fd n k d) (hm : ds.length ≤ m) : Fd ((n + 2) * m + 3) (k + 1) (.tuple ds) := ⟨Sh.tuple (fun d hd => (h d hd).1) hm, by rw [alike]; exact alikeAll_self fun d hd => (h d hd).2⟩
theorem Fd.repr {n k : Nat} {d : PyData} (h : Fd n k d) (hn : n ≤ 16777216 := by decide) (hk : k ≤ 60 := by decide) : gRepr [d] = some (.sh (.str d.shown)) := h.1.repr hn hk
theorem Fd.small {n k : Nat} {d : PyData} (h : Fd n k d) (hk : k ≤ 60 := by decide) : small d = true := decide_eq_true (Nat.le_trans h.1.2.2 hk)
theorem gNe_strR (x : Str) : gNe (.str x) (.str x) = some (.bool false) := gNe_refl (by simp [alike]) (by simp [Eg.small, PyData.depth])
theorem gEq_strR (x : Str) : gEq (.str x) (.str x) = some (.bool true) := gEq_refl (by simp [alike]) (by simp [Eg.small, PyData.depth])
theorem all1 {p : PyData → Prop} {a : PyData} (ha : p a) : ∀ d ∈ [a], p d := fun d h => by simp at h; rw [h]; exact ha
theorem all2 {p : PyData → Prop} {a b : PyData} (ha : p a) (hb : p b) : ∀ d ∈ [a, b], p d := fun d h => by
  rcases List.mem_cons.mp h with rfl | h
  · exact ha
  · exact all1 hb d h
theorem all3 {p : PyData → Prop} {a b c : PyData} (ha : p a) (hb : p b) (hc : p c) : ∀ d ∈ [a, b, c], p d := fun d h => by
  rcases List.mem_cons.mp h with rfl | h
  · exact ha
  · exact all2 hb hc d h
theorem allM {α : Type} {p : PyData → Prop} {f : α → PyData} {l : List α} (h : ∀ x ∈ l, p (f x)) : ∀ d ∈ l.map f, p d := fun d hd => by
  obtain ⟨x, hx, rfl⟩ := List.mem_map.mp hd
  exact h x hx
theorem tupG_ok {ds : List PyData} (h : ds.length ≤ sizeLine) : tupG ds = some (.tuple ds) := if_pos h
theorem lstG_ok {ds : List PyData} (h : ds.length ≤ sizeLine) : lstG ds = some (.ol ds) := if_pos h
theorem tp0 : tupG [] = some (.tuple []) := tupG_ok (by show 0 ≤ sizeLine; decide)
theorem tp1 (a : PyData) : tupG [a] = some (.tuple [a]) := tupG_ok (by show 1 ≤ sizeLine; decide)
theorem tp2 (a b : PyData) : tupG [a, b] = some (.tuple [a, b]) := tupG_ok (by show 2 ≤ sizeLine; decide)
theorem tp3 (a b c : PyData) : tupG [a, b, c] = some (.tuple [a, b, c]) := tupG_ok (by show 3 ≤ sizeLine; decide)
theorem tp4 (a b c d : PyData) : tupG [a, b, c, d] = some (.tuple [a, b, c, d]) := tupG_ok (by show 4 ≤ sizeLine; decide)
theorem tp5 (a b c d e : PyData) : tupG [a, b, c, d, e] = some (.tuple [a, b, c, d, e]) := tupG_ok (by show 5 ≤ sizeLine; decide)
theorem tp6 (a b c d e f : PyData) : tupG [a, b, c, d, e, f] = some (.tuple [a, b, c, d, e, f]) := tupG_ok (by show 6 ≤ sizeLine; decide)
theorem tp7 (a b c d e f g : PyData) : tupG [a, b, c, d, e, f, g] = some (.tuple [a, b, c, d, e, f, g]) := tupG_ok (by show 7 ≤ sizeLine; decide)
theorem ls0 : lstG [] = some (.ol []) := lstG_ok (by show 0 ≤ sizeLine; decide)
theorem ls1 (a : PyData) : lstG [a] = some (.ol [a]) := lstG_ok (by show 1 ≤ sizeLine; decide)
theorem ls2 (a b : PyData) : lstG [a, b] = some (.ol [a, b]) := lstG_ok (by show 2 ≤ sizeLine; decide)
theorem ls3 (a b c : PyData) : lstG [a, b, c] = some (.ol [a, b, c]) := lstG_ok (by show 3 ≤ sizeLine; decide)
theorem ls4 (a b c d : PyData) : lstG [a, b, c, d] = some (.ol [a, b, c, d]) := lstG_ok (by show 4 ≤ sizeLine; decide)
theorem ls5 (a b c d e : PyData) : lstG [a, b, c, d, e] = some (.ol [a, b, c, d, e]) := lstG_ok (by show 5 ≤ sizeLine; decide)
theorem ls6 (a b c d e f : PyData) : lstG [a, b, c, d, e, f] = some (.ol [a, b, c, d, e, f]) := lstG_ok (by show 6 ≤ sizeLine; decide)
theorem ls7 (a b c d e f g : PyData) : lstG [a, b, c, d, e, f, g] = some (.ol [a, b, c, d, e, f, g]) := lstG_ok (by show 7 ≤ sizeLine; decide)
theorem tuL (ds : List PyData) : gTuple [.list ds] = some (.sh (.tuple ds)) := rfl
end Eg
namespace Eg
open PySem L2 PySem.W PySem.SeqAt
section
variable [Tbs] {X : Cx} {C : Ct} {e a b c o tg iter : Expr} {es : List Expr} {pos p p1 p2 apos cpos pos' : Pos} {P : List Nat} {σ σ1 : St} {ρ ρ1 : Rho} {F H F1 H1 : Hp}
def gIsi (T : String) (d : PyData) : Option PyData := (tyName d).bind fun U => (kitB U T).map .bool
def putLO (x : Option (Option OD)) (i : Nat) (d kd : PyData) : M Out := fun ρ => match kd, x with
  | .int j, some (some (.ol xs)) => (match ixN xs.length j with
    | some n => .ok .nx (ρ.set i (some (.ol (xs.set n d))))
    | none => .bad)
  | _, _ => .bad
def sPutL (i : Nat) (mv mk : M PyData) : M Out := mv.bind fun d => mOl i (mk.bind fun kd => fun ρ => putLO ρ[i]? i d kd ρ)
theorem s_putL {i : Nat} {value : Expr} {mv mk : M PyData} (ho : PE X o (tVar i)) (hi : PE X e (tD C mk)) (hv : PE X value (tD C mv)) (hs : swapsWithSole [.Subscript o e pos'] value pos.line X.env = pure false := by rfl) (hw : swappedStores [.Subscript o e pos'] value X.env = pure none := by rfl)
    (h1 : (assignEach [.Subscript o e pos'] X.env).map (·.2) = [assign (.Subscript o e pos') X.env] := by rfl)
    (hsub : ∀ v, assign (.Subscript o e pos') X.env v = (do
      let ov ← holding [v] (eval o X.env)
      let iv ← holding [v, ov] (eval e X.env)
      standAt pos'
      holding [v, ov, iv] (setItem ov iv v)
      release [v, ov, iv] []) := by intro _; rfl) :
    PS X (.Assign [.Subscript o e pos'] value pos) (tS C P (sPutL i mv mk)) :=
  (ps_asg hv (pg_sub ho hi set_list hsub) hs hw h1).imp fun D σ H ⟨F, ρ, sr, p⟩ => by
    refine ⟨F, ρ, sr, PostS.part (P := P) p fun d ρ1 F1 H1 v q1 g1 s1 r1 => ?_⟩
    unfold mOl at q1
    split at q1
    · rename_i hio
      obtain ⟨xs0, eo⟩ := isOl_at hio
      obtain ⟨x, hx, _⟩ := s1.sl i _ eo
      refine ⟨x, hx, F1, ρ1, s1, PostS.part (P := P) q1 fun kd ρ2 F2 H2 y q2 g2 s2 r2 => ?_⟩
      unfold putLO at q2
      split at q2
      · rename_i j xs eo2
        split at q2
        · rename_i n hz
          obtain ⟨x', hx', a, vs, rfl, k1, k2, k3⟩ := s2.sl i _ eo2
          rw [hx] at hx'; cases hx'
          cases r2
          have st := SR.write (i := i) (o' := .ol (xs.set n d)) (u := .lst (vs.set n v)) s2 eo2 rfl hx rfl ⟨a, vs.set n v, rfl, k1, upd_same, DVs.set (DV.mono g2.ext r1) n k3⟩
          exact ⟨a, vs, j, n, rfl, rfl, k2, by rw [k3.len]; exact hz, q2 F2 _ σ st.2 st.1 Pres.refl⟩
        · exact q2.elim
      · exact q2.elim
    · exact q1.elim
def extO (x : Option (Option OD)) (i : Nat) (d : PyData) : M PyData := fun ρ => match x, d with
  | some (some (.ol xs)), .list ys => if xs.length + ys.length ≤ sizeLine then .ok .none (ρ.set i (some (.ol (xs ++ ys)))) else .bad
  | _, _ => .bad
def mExtend (i : Nat) (m : M PyData) : M PyData := m.bind fun d => fun ρ => extO ρ[i]? i d ρ
theorem x_extend {i : Nat} {m : M PyData} (ho : PE X o (tVar i)) (he : PE X e (tD C m))
    (hbase : attributeBase o "extend" X.env (eval o X.env) = eval o X.env := by rfl)
    (hfew : ((backTo cpos (starEach [e] X.env)).all (fun z => !z.1) && (backToKw cpos (keywordEach [] X.env)).all (fun z => z.1.isSome)
      && decide ([e].length + ([] : List Keyword).length + (if ([] : List Keyword).isEmpty then 0 else 1) < 30)) = true := by rfl)
    (hline : (apos.endLine == cpos.line) = true := by rfl) (hs : starEach [e] X.env = (false, eval e X.env) :: starEach [] X.env := by rfl) :
    PE X (.Call (.Attribute o "extend" apos) [e] [] cpos) (tD C (mOl i (mExtend i m))) := by
  refine (pe_bm PySem.F.plainAttrs_list PySem.F.slot_list_extend PySem.F.type_list_extend mt_extend ho (pa_cons he pa_nil hs) hbase hfew hline hs rfl).imp fun σ H Q ⟨F, ρ, sr, p⟩ => ?_
  unfold mOl at p
  split at p
  · rename_i hi
    obtain ⟨xs, ex⟩ := isOl_at hi
    obtain ⟨v, hv, a, vs, rfl, h1, h2, h3⟩ := sr.sl i _ ex
    refine ⟨_, hv, .inl ⟨rfl, vs, SqL.of h2⟩, F, ρ, sr, p.part fun d ρ1 F1 H1 y e1 q1 g1 s1 r1 => ?_⟩
    have q1 := q1.on stb_D g1
    unfold extO at q1
    split at q1
    · rename_i ys zs q _
      split at q1
      · rename_i hz
        obtain ⟨v', hv', b, ws, e2, k1, k2, k3⟩ := s1.sl i _ q
        rw [hv] at hv'; cases hv'; cases e2
        cases r1 with
        | @lst c us ds c1 c2 =>
          have st := SR.write (i := i) (o' := .ol (ys ++ zs)) (u := .lst (ws ++ us)) s1 q rfl hv rfl ⟨a, ws ++ us, rfl, k1, upd_same, k3.append c2⟩
          exact ⟨a, c, ws, us, rfl, rfl, k2, s1.sub _ _ c1, by rw [k3.len, c2.len]; exact hz, q1 F1 _ _ st.2 st.1 .non⟩
      · exact q1.elim
    · exact q1.elim
  · exact p.elim
end
section
variable {ρ : Rho}
theorem v_putL (i : Nat) (mv mk : M PyData) : sPutL i mv mk ρ = (mv ρ).go fun d => mOl i (mk.bind fun kd => fun ρ => putLO ρ[i]? i d kd ρ) := rfl
theorem v_ext (i : Nat) (m : M PyData) : mExtend i m ρ = (m ρ).go fun d => fun ρ => extO ρ[i]? i d ρ := rfl
theorem v_exto {xs ys : List PyData} {i : Nat} (h : xs.length + ys.length ≤ sizeLine) : extO (some (some (.ol xs))) i (.list ys) ρ = .ok .none (ρ.set i (some (.ol (xs ++ ys)))) := if_pos h
end
theorem fnG_bad [Tbs] {P : Program} {w : World} {K : PySem.W.Frag} {mg : Str → Option Value} {base : Heap} {k n : Nat} {f : Addr} {fd : FuncData} {ps : List Str} {XR : Hp → Hp → Value → Option Addr → Xc → Prop} (hn : ps.length = n) : FnG P w K mg base (L2.CX P w) k f fd ps (spI K w mg XR n fun _ => .bad) :=
  ⟨fun vs H Q E h => hn.trans h.1.symm, fun A outer s H args us vs Q E _ _ _ _ _ h => by
    obtain ⟨_, F, os, _, p⟩ := h
    exact p.elim⟩
end Eg
namespace Eg
open PySem L2 PySem.W PySem.SeqAt
structure Dft (K : PySem.W.Frag) (v : V) (u : Value) (d : PyData) : Prop where
  rel : RelV v u
  dv : ∀ (w : World) (mg : Str → Option Value) (e : Option (Addr × Obj)) (l : Option LamI) (F : Hp), DV ⟨K, w, mg, e, l⟩ F v d
abbrev Pick := List (Nat ⊕ (V × Value × PyData))
def pkU (π : Pick) (us : List Value) : List Value := π.map fun x => match x with
  | .inl i => us.getD i .none
  | .inr t => t.2.1
def pkV (π : Pick) (vs : List V) : List V := π.map fun x => match x with
  | .inl i => vs.getD i .non
  | .inr t => t.1
def pkA (π : List (Nat ⊕ PyData)) (as : List Arg) : List Arg := π.map fun x => match x with
  | .inl i => as.getD i (.dat .none)
  | .inr d => .dat d
def forget (π : Pick) : List (Nat ⊕ PyData) := π.map fun x => match x with
  | .inl i => .inl i
  | .inr t => .inr t.2.2
def pkOk (K : PySem.W.Frag) (n : Nat) : Pick → Prop
  | [] => True
  | .inl i :: π => i < n ∧ pkOk K n π
  | .inr t :: π => Dft K t.1 t.2.1 t.2.2 ∧ pkOk K n π
theorem valsGet : ∀ {vs : List V} {us : List Value} (i : Nat), Vals vs us → RelV (vs.getD i .non) (us.getD i .none)
  | _, _, _, .nil => rfl
  | _, _, 0, .cons h _ => h
  | _, _, i + 1, .cons _ h => by simpa using valsGet i h
theorem pkVals {K : PySem.W.Frag} {n : Nat} : ∀ {π : Pick} {vs : List V} {us : List Value}, pkOk K n π → Vals vs us → Vals (pkV π vs) (pkU π us)
  | [], _, _, _, _ => .nil
  | .inl i :: π, _, _, h, r => .cons (valsGet i r) (pkVals h.2 r)
  | .inr t :: π, _, _, h, r => .cons h.1.rel (pkVals h.2 r)
theorem rAsGet {K : Kw} {F : Hp} {σ : St} : ∀ {vs : List V} {as : List Arg} (i : Nat), rAs K F σ vs as → i < vs.length → ∀ {ws : List V} {bs : List Arg}, rAs K F σ ws bs → rAs K F σ (vs.getD i .non :: ws) (as.getD i (.dat .none) :: bs)
  | _, _, 0, .dat h _, _, _, _, t => .dat h t
  | _, _, 0, .slot h _, _, _, _, t => .slot h t
  | _, _, 0, .fr h _, _, _, _, t => .fr h t
  | _, _, i + 1, .dat _ r, l, _, _, t => by simpa using rAsGet i r (by simpa using l) t
  | _, _, i + 1, .slot _ r, l, _, _, t => by simpa using rAsGet i r (by simpa using l) t
  | _, _, i + 1, .fr _ r, l, _, _, t => by simpa using rAsGet i r (by simpa using l) t
theorem pkAs {K : Kw} {F : Hp} {σ : St} {n : Nat} {vs : List V} {as : List Arg} (r : rAs K F σ vs as) (hl : vs.length = n) : ∀ {π : Pick}, pkOk K n π → rAs K F σ (pkV π vs) (pkA (forget π) as)
  | [], _ => .nil
  | .inl i :: π, h => rAsGet i r (by rw [hl]; exact h.1) (pkAs r hl h.2)
  | .inr t :: π, h => .dat (h.1.dv K.w K.mg K.exn K.lam F) (pkAs r hl h.2)
def mPick (π : List (Nat ⊕ PyData)) (ms : M (List Arg)) : M (List Arg) := ms.bind fun as => M.ret (pkA π as)
def BindsP (K : PySem.W.Frag) (fd : FuncData) (ps ks : List Str) (n1 n2 : Nat) (π : Pick) : Prop := ∀ (s : Shared) (us ws : List Value), K.In s.heap → us.length = n1 → ws.length = n2 → BindsTo s fd ⟨us, ks.zip ws⟩ (ps.zip (pkU π (us ++ ws)))
section
variable [Tbs] {X : Cx} {C : Ct} {e a b : Expr} {es : List Expr} {pos p : Pos} {k : Nat} {f : Addr} {fd : FuncData} {ps ks : List Str} {x : Str} {n1 n2 n : Nat} {π : Pick} {sm : List (Nat ⊕ PyData)} {kws : List Keyword} {m : Fn}
omit [Tbs] in
theorem pick_eq (ms mk : M (List Arg)) (π : List (Nat ⊕ PyData)) (ρ : Rho) : mCall m (mPick π (mApp ms mk)) ρ = (ms.bind fun as => mk.bind fun bs => fun ρ => match argsS ρ (pkA π (as ++ bs)) with
    | some os => (match m (os.map some) with
      | .ok r _ => .ok r ρ
      | .ex x _ => .ex x ρ
      | .bad => .bad)
    | none => .bad) ρ := by
  unfold mCall mPick mApp M.bind M.ret
  cases ms ρ with
  | ok as ρ1 =>
    simp only
    cases mk ρ1 <;> rfl
  | _ => rfl
theorem pick_go {ms mk : M (List Arg)} {σ : St} {ρ : Rho} {F0 H : Hp} {Q : VK} (hK : (⟨X.K, X.w, X.mg, none, none⟩ : Kw) = C.K) (ok : pkOk X.K (n1 + n2) π) (hn : π.length = n) (h1 : LenOk ms n1) (h2 : LenOk mk n2) (sr : SR C.K F0 H σ ρ) (pp : PostE C (rO C.K) σ ρ F0 H Q (mCall m (mPick (forget π) (mApp ms mk)) ρ)) :
    tL C ms σ H fun vs H1 => tL C mk σ H1 fun zs H2 => (vs.length = n1 ∧ zs.length = n2) ∧ spI X.K X.w X.mg C.XR n m (pkV π (vs ++ zs)) H2 Q (WE C.W σ) := by
  refine ⟨F0, ρ, sr, ?_⟩
  rw [pick_eq] at pp
  refine PostE.part (RA := rL C.K) pp fun as ρ1 F1 H1 xs e1 q1 g1 s1 r1 => ?_
  have q1 := q1.on stb_O g1
  refine ⟨F1, ρ1, s1, PostE.part (RA := rL C.K) q1 fun bs ρ2 F2 H2 zs e2 q2 g2 s2 r2 => ?_⟩
  have q2 := q2.on stb_O g2
  have l1 : xs.length = n1 := by rw [r1.len]; exact h1 _ _ _ e1
  have l2 : zs.length = n2 := by rw [r2.len]; exact h2 _ _ _ e2
  refine ⟨⟨l1, l2⟩, ?_⟩
  have ra := pkAs ((rAs.mono g2.ext r1).append r2) (by rw [List.length_append, l1, l2]) ((show X.K = C.K.fr from congrArg Kw.fr hK) ▸ ok)
  cases ea : argsS ρ2 (pkA (forget π) (as ++ bs)) with
  | none => simp only [ea] at q2; exact q2.elim
  | some os =>
    simp only [ea] at q2
    obtain ⟨k1, k2⟩ := argsS_at s2 ra ea
    obtain ⟨sa, no⟩ := SR.args s2 k1 k2
    refine ⟨by rw [pkV, List.length_map, hn], F2, os, (show (⟨X.K, X.w, X.mg, none, none⟩ : Kw) = C.K from hK) ▸ sa, ?_⟩
    rw [show (⟨X.K, X.w, X.mg, none, none⟩ : Kw) = C.K from hK]
    cases e3 : m (os.map some) with
    | bad => simp only [e3] at q2; exact q2.elim
    | ok r ρa =>
      simp only [e3] at q2
      intro F' H' v g' s' ro
      obtain ⟨s3, g3⟩ := s2.after0 no g' s'.sub s'.tb
      refine q2 F' H' v g3 s3 ⟨ro.1, fun io a ea => ?_⟩
      have hn : H2 a = none := ((ro.2 io a ea).2).resolve_right (no a)
      refine ⟨fun z => ?_, .inl hn⟩
      obtain ⟨_, u, hu⟩ := own.at s2 z
      rw [hn] at hu; cases hu
    | ex y ρa =>
      simp only [e3] at q2
      intro F' H' cls d g' s' xr
      obtain ⟨s3, g3⟩ := s2.after0 no g' s'.sub s'.tb
      exact q2 F' H' cls d g3 s3 xr
theorem o_fnP {ms mk : M (List Arg)} (F : FnG X.prog X.w X.K X.mg X.base (L2.CX X.prog X.w) k f fd ps (spI X.K X.w X.mg C.XR n m)) (hG : X.A.guards = some []) (hr : Room k X.A) (hg : Gl X x) (hm : X.mg x = some (.ref f)) (hk : PySem.W.keepIn X.K (.ref f) = true) (hb : BindsP X.K fd ps ks n1 n2 π) (ok : pkOk X.K (n1 + n2) π) (hn : π.length = n) (hs : forget π = sm) (tk : Takes X C.W) (ha : PA X (e :: es) (tL C ms)) (hkw : PK X kws (tL C mk))
    (h1 : LenOk ms n1) (h2 : LenOk mk n2) (hall : (backToKw pos (keywordEach kws X.env)).all (·.1.isSome) = true := by rfl) (hks : (backToKw pos (keywordEach kws X.env)).filterMap (·.1) = ks := by rfl)
    (hdb : (x == ("__debug__" : Str)) = false := by decide) (he : starEach (e :: es) X.env = (false, eval e X.env) :: starEach es X.env := by rfl)
    (hpl : ((backTo pos (starEach (e :: es) X.env)).any (·.1) || (backToKw pos (keywordEach kws X.env)).any (·.1.isNone)) = false := by rfl) (hK : (⟨X.K, X.w, X.mg, none, none⟩ : Kw) = C.K := by rfl) : PE X (.Call (.Name x p) (e :: es) kws pos) (tO C (mCall m (mPick sm (mApp ms mk)))) := by
  subst hs
  refine ⟨fun pins s σ H Q I ⟨F0, ρ, sr, pp⟩ => ?_⟩
  refine wpAny_Call_Name_kw (ld_glob I hg hm ?_ hdb)
  have go := pick_go hK ok hn h1 h2 sr pp
  refine PySem.W.callWith_KW (h₀ := X.base) I.ok.mod.kin hk hall (thn (ha.run pos pins s σ H _ I go) fun us s1 ⟨vs, H1, I1, r, q⟩ => ?_) hpl he
  refine thn (hkw.run pos pins s1 σ H1 _ I1 q) fun ws s2 ⟨zs, H2, I2, rz, ⟨l1, l2⟩, q2⟩ => ⟨I2.kIn, ?_⟩
  rw [hks]
  have bt := hb s2 us ws I2.kIn (by rw [← r.length]; exact l1) (by rw [← rz.length]; exact l2)
  refine wpAny_call (codeAny_mono (F.run X.A X.stack s2 H2 ⟨us, ks.zip ws⟩ _ (pkV π (vs ++ zs)) Q (WE C.W σ) hG hr I2.env0 bt (pkVals ok (r.append rz)) q2) fun res s' q => ?_)
  match res, q with
  | .error e, q => exact passAt tk σ pins H2 s2 e s' I2 q
  | .ok (.ret u), q => exact I2.after q
theorem o_fnP0 {mk : M (List Arg)} (F : FnG X.prog X.w X.K X.mg X.base (L2.CX X.prog X.w) k f fd ps (spI X.K X.w X.mg C.XR n m)) (hG : X.A.guards = some []) (hr : Room k X.A) (hg : Gl X x) (hm : X.mg x = some (.ref f)) (hk : PySem.W.keepIn X.K (.ref f) = true) (hb : BindsP X.K fd ps ks 0 n2 π) (ok : pkOk X.K (0 + n2) π) (hn : π.length = n) (hs : forget π = sm) (tk : Takes X C.W) (hkw : PK X kws (tL C mk))
    (h2 : LenOk mk n2) (hall : (backToKw pos (keywordEach kws X.env)).all (·.1.isSome) = true := by rfl) (hks : (backToKw pos (keywordEach kws X.env)).filterMap (·.1) = ks := by rfl)
    (hdb : (x == ("__debug__" : Str)) = false := by decide)
    (hpl : ((backTo pos (starEach [] X.env)).any (·.1) || (backToKw pos (keywordEach kws X.env)).any (·.1.isNone)) = false := by rfl) (hK : (⟨X.K, X.w, X.mg, none, none⟩ : Kw) = C.K := by rfl) : PE X (.Call (.Name x p) [] kws pos) (tO C (mCall m (mPick sm (mApp mNil mk)))) := by
  subst hs
  refine ⟨fun pins s σ H Q I ⟨F0, ρ, sr, pp⟩ => ?_⟩
  refine wpAny_Call_Name_kw (ld_glob I hg hm ?_ hdb)
  obtain ⟨F1, ρ1, s1, go⟩ := pick_go hK ok hn (n1 := 0) ll_nil h2 sr pp
  have go := go F1 H [] Grow.refl s1 .nil
  refine PySem.W.callWith_KW0 (h₀ := X.base) I.ok.mod.kin hk hall ?_ hpl
  refine thn (hkw.run pos pins s σ H _ I go) fun ws s2 ⟨zs, H2, I2, rz, ⟨l1, l2⟩, q2⟩ => ⟨I2.kIn, ?_⟩
  rw [hks]
  have bt := hb s2 [] ws I2.kIn rfl (by rw [← rz.length]; exact l2)
  refine wpAny_call (codeAny_mono (F.run X.A X.stack s2 H2 ⟨[], ks.zip ws⟩ _ (pkV π ([] ++ zs)) Q (WE C.W σ) hG hr I2.env0 bt (pkVals ok rz) q2) fun res s' q => ?_)
  match res, q with
  | .error e, q => exact passAt tk σ pins H2 s2 e s' I2 q
  | .ok (.ret u), q => exact I2.after q
end
section
variable {ρ : Rho}
theorem v_pick (π : List (Nat ⊕ PyData)) (ms : M (List Arg)) : mPick π ms ρ = (ms ρ).go fun as => M.ret (pkA π as) := rfl
theorem v_pk0 (as : List Arg) : pkA [] as = [] := rfl
theorem v_pkl (i : Nat) (π : List (Nat ⊕ PyData)) (as : List Arg) : pkA (.inl i :: π) as = as.getD i (.dat .none) :: pkA π as := rfl
theorem v_pkr (d : PyData) (π : List (Nat ⊕ PyData)) (as : List Arg) : pkA (.inr d :: π) as = .dat d :: pkA π as := rfl
end
end Eg
namespace Eg
open PySem L2 PySem.W PySem.SeqAt
def aMulW (x y : PyData) : Option OD := match x, y with
  | .int i, .int j => if i.natAbs.log2 < 400000 ∧ j.natAbs.log2 < 400000 then some (.sh (.int (i * j))) else none
  | x, y => aMul x y
def gFloorW : PyData → PyData → Option PyData
  | .int i, .int j => if 0 < j ∧ j.natAbs.log2 < 8000 then some (.int (i / j)) else none
  | _, _ => none
theorem ao_mulW [Tbs] {X : Cx} : OpO X (binaryOp .Mult) aMulW := by
  intro pins s σ F H x y v u dx dy o Q I rx ry sub h1 h2 e q
  unfold aMulW at e
  split at e
  · split at e <;> cases e
    rename_i hz
    cases h1; cases h2
    exact op_mulW pins s σ H _ _ v u Q I rx ry ⟨_, _, rfl, rfl, by unfold CMulW; omega, q _ _ _ (.asis (.int _))⟩
  · exact ao_mul pins s σ F H x y v u dx dy o Q I rx ry sub h1 h2 e q
theorem od_floorW [Tbs] {X : Cx} : OpD X (binaryOp .FloorDiv) gFloorW := opd_int op_fdivW fun x y d e => by
  cases x <;> cases y <;> simp only [gFloorW] at e <;> first | cases e | skip
  split at e <;> cases e
  rename_i h
  exact ⟨_, _, rfl, rfl, ⟨h.1, by have := h.2; omega⟩, rfl⟩
theorem log_lt {i : Int} {k : Nat} (h : i.natAbs < 2 ^ k) (h0 : 0 < k) : i.natAbs.log2 < k := by
  by_cases z : i.natAbs = 0
  · rw [z]; show 0 < k; exact h0
  · exact (Nat.log2_lt z).mpr h
theorem gMulW_int {i j : Int} {a b : Nat} (h1 : i.natAbs < 2 ^ a) (h2 : j.natAbs < 2 ^ b) (ha : 0 < a ∧ a ≤ 400000 := by decide) (hb : 0 < b ∧ b ≤ 400000 := by decide) : aMulW (.int i) (.int j) = some (.sh (.int (i * j))) := by
  have x := log_lt h1 ha.1
  have y := log_lt h2 hb.1
  simp only [aMulW]
  rw [if_pos ⟨by omega, by omega⟩]
theorem gFloorW_int {i j : Int} {b : Nat} (h : 0 < j) (h2 : j.natAbs < 2 ^ b) (hb : 0 < b ∧ b ≤ 8000 := by decide) : gFloorW (.int i) (.int j) = some (.int (i / j)) := by
  have y := log_lt h2 hb.1
  simp only [gFloorW]
  rw [if_pos ⟨h, by omega⟩]
end Eg
namespace Lw
open PySem L2 PySem.W PySem.SeqAt Eg
end Lw
namespace Lw
open PySem L2 PySem.W PySem.SeqAt Eg
end Lw
namespace Eg
open PySem L2 PySem.W PySem.SeqAt
theorem gGt_int (a b : Int) : gGt (.int a) (.int b) = some (.bool (decide (b < a))) := by
  simp [gGt, cmpOk, alike, isNon, small, PyData.depth, dataLt_int]
theorem gLt_int (a b : Int) : gLt (.int a) (.int b) = some (.bool (decide (a < b))) := by
  simp [gLt, cmpOk, alike, isNon, small, PyData.depth, dataLt_int]
theorem gGe_int (a b : Int) : gGe (.int a) (.int b) = some (.bool (decide (b ≤ a))) := by
  simp [gGe, cmpOk, alike, isNon, small, PyData.depth, dataLt_int]
  by_cases h : a < b
  · simp [h]
  · simp [h]
    omega
theorem gEq_int (a b : Int) : gEq (.int a) (.int b) = some (.bool (decide (a = b))) := by
  simp [gEq, small, PyData.depth, PyData.eqv]
  rfl
theorem gNe_int (a b : Int) : gNe (.int a) (.int b) = some (.bool (decide (a ≠ b))) := by
  simp [gNe, small, PyData.depth, PyData.eqv]
  rfl
theorem gMod_int {a b : Int} (h : 0 < b) : gMod (.int a) (.int b) = some (.int (a % b)) := by simp [gMod, h]
theorem gPow_int {a b : Int} (h : 0 ≤ b ∧ b ≤ 1000000 ∧ a.natAbs < 2 ^ 64) : gPow (.int a) (.int b) = some (.int (a ^ b.toNat)) := by simp only [gPow]; rw [if_pos h]
def tapD (cells : List PyData) (spot rest calls : Int) : List (Key × PyData) := [(.inr "cells", .list cells), (.inr "spot", .int spot), (.inr "rest", .int rest), (.inr "calls", .int calls)]
section
variable (c : List PyData) (s r k : Int)
end
end Eg
namespace Lw
open PySem L2 PySem.W PySem.SeqAt Eg
theorem h4 : 4 < sizeLine := by decide
theorem gLen_list (c : List PyData) : gLen [.list c] = some (.sh (.int c.length)) := rfl
theorem cell_at {c : List PyData} {s : Int} (hc : ∀ d ∈ c, ∃ i, d = PyData.int i) (h : 0 < (c.length : Int)) : ∃ x, gIx (.list c) (.int (s % c.length)) = some (.int x) := by
  have h1 := Int.emod_nonneg s (Int.ne_of_gt h)
  have h2 := Int.emod_lt_of_pos s h
  have e : gIx (.list c) (.int (s % c.length)) = c[(s % c.length).toNat]? := by
    show L2.atI c (s % c.length) = _
    unfold L2.atI ixN
    simp [h1, h2]
  have hl : (s % c.length).toNat < c.length := by omega
  obtain ⟨x, ex⟩ := hc c[(s % c.length).toNat] (List.getElem_mem hl)
  exact ⟨x, by rw [e, List.getElem?_eq_getElem hl, ex]⟩
end Lw
namespace Lw
open PySem L2 PySem.W PySem.SeqAt Eg
abbrev Hand := Str × Str
def hd (h : Hand) : PyData := .tuple [.str h.1, .str h.2]
def pd (p : Hand × Hand) : PyData := .tuple [hd p.1, hd p.2]
def dle (x y : PyData) : Bool := dataLe false id x y
theorem toks_hd (h : Hand) : keyToks (hd h) = [.inl 1, .inr h.1.cps.toList, .inl 1, .inr h.2.cps.toList, .inl 0] := by
  simp [hd, keyToks, keyToksAll]
theorem hd_inj {h g : Hand} (e : keyToks (hd h) = keyToks (hd g)) : h = g := by
  rw [toks_hd, toks_hd] at e
  simp only [List.cons.injEq, Sum.inr.injEq, true_and, and_true] at e
  exact Prod.ext (str_of_cps e.1) (str_of_cps e.2)
theorem hd_alike (h g : Hand) : alike (hd h) (hd g) = true := by simp [hd, alike, alikeAll]
theorem hd_small (h : Hand) : small (hd h) = true := by simp [hd, small, PyData.depth, PyData.depthAll]
def lt (h g : Hand) : Bool := dataLt (hd h) (hd g)
def lo (h g : Hand) : Hand := if lt g h = true then g else h
def hi (h g : Hand) : Hand := if lt h g = true then g else h
def mm (h g : Hand) : Hand × Hand := (lo h g, hi h g)
def rise : List Hand → List (Hand × Hand)
  | [] => []
  | x :: xs => xs.map (fun y => (x, y)) ++ rise xs
theorem eqv_hd {h g : Hand} (e : PyData.eqv (hd h) (hd g) = true) : h = g := hd_inj ((toks_eqv _ _ (hd_alike h g)).1 e)
theorem eqv_self (h : Hand) : PyData.eqv (hd h) (hd h) = true := eqv_refl_alike _ (hd_alike h h)
def sortH (l : List Hand) : List Hand := l.mergeSort fun a b => dle (hd a) (hd b)
theorem sortH_map (l : List Hand) : sortD (l.map hd) = (sortH l).map hd := (List.map_mergeSort (s := dataLe false id) fun a _ b _ => rfl).symm
theorem sortH_perm (l : List Hand) : (sortH l).Perm l := List.mergeSort_perm _ _
end Lw
namespace Lw
open PySem L2 PySem.W PySem.SeqAt Eg
def TapAt (kvs : List (Key × PyData)) (n : Nat) : Prop := ∃ c s r k, kvs = tapD c s r k ∧ (∀ d ∈ c, ∃ i, d = PyData.int i) ∧ 0 ≤ s ∧ 0 ≤ k ∧ k ≤ n
theorem TapAt.mono {kvs : List (Key × PyData)} {n m : Nat} (h : TapAt kvs n) (l : n ≤ m) : TapAt kvs m := by
  obtain ⟨c, s, r, k, h1, h2, h3, h4, h5⟩ := h
  exact ⟨c, s, r, k, h1, h2, h3, h4, by omega⟩
def five : List Str := ["ash", "b", "elm", "oak", "zzzzzzzz"]
theorem gMin_int (a b : Int) : gMin [.int a, .int b] = some (.sh (.int (if b < a then b else a))) := by
  simp [gMin, pairOk, alike, Eg.isNon, small, PyData.depth, isLst, dataLt_int]
  split <;> rfl
theorem gLen_any (l : List PyData) : gLen [.list l] = some (.sh (.int l.length)) := rfl
end Lw
namespace Lw
open PySem L2 PySem.W PySem.SeqAt Eg
theorem sortOk_hd (l : List Hand) (h : l.length ≤ 1000) : sortOk (l.map hd) = true := by
  have z := sizeLine_eq
  simp only [sortOk, alikeB, Bool.and_eq_true, Bool.or_eq_true, List.all_eq_true, decide_eq_true_eq, List.mem_map, forall_exists_index, and_imp, forall_apply_eq_imp_iff₂, List.length_map]
  exact ⟨⟨⟨fun a _ b _ => hd_alike a b, .inl fun a _ => rfl⟩, fun a _ => hd_small a⟩, by omega⟩
end Lw
namespace Lw
open PySem L2 PySem.W PySem.SeqAt Eg
end Lw
namespace Lw
open PySem L2 PySem.W PySem.SeqAt Eg
structure Row where
  p : Hand × Hand
  a : Int
  b : Int
  place : Str
  giver : Str
  u : Int
  free : Int
  here : Bool
def rd (r : Row) : PyData := .tuple [pd r.p, .tuple [.int r.a, .int r.b], .str r.place, .str r.giver, .int r.u, .int r.free, .bool r.here]
structure Lot where
  turn : Int
  floor : Int
  rows : List Row
end Lw
namespace Lw
open PySem L2 PySem.W PySem.SeqAt Eg
def IntF (i : Int) : Prop := (PyData.int i).showable = true ∧ (PyData.int i).shown.length ≤ 50
instance : DecidablePred IntF := fun i => by unfold IntF; infer_instance
def StrF (x : Str) : Prop := (reprText x).length ≤ 20
instance : DecidablePred StrF := fun i => by unfold StrF; infer_instance
def PairF (p : Hand × Hand) : Prop := (StrF p.1.1 ∧ StrF p.1.2) ∧ StrF p.2.1 ∧ StrF p.2.2
structure RowF (r : Row) : Prop where
  p : PairF r.p
  a : IntF r.a
  b : IntF r.b
  place : StrF r.place
  giver : StrF r.giver
  u : IntF r.u
  free : IntF r.free
theorem _root_.Eg.Sh.mono {n m k l : Nat} {d : PyData} (h : Sh n k d) (hn : n ≤ m) (hk : k ≤ l) : Sh m l d := ⟨h.1, Nat.le_trans h.2.1 hn, Nat.le_trans h.2.2 hk⟩
theorem Sh.int {i : Int} (h : IntF i) : Sh 50 0 (.int i) := ⟨h.1, h.2, by rw [PyData.depth]; exact Nat.le_refl _⟩
theorem Sh.bool (b : Bool) : Sh 50 0 (.bool b) := by cases b <;> exact ⟨by rw [PyData.showable], by decide +kernel, by rw [PyData.depth]; exact Nat.le_refl _⟩
theorem Sh.none : Sh 50 0 .none := ⟨by rw [PyData.showable], by decide +kernel, by rw [PyData.depth]; exact Nat.le_refl _⟩
theorem Sh.strF {x : Str} (h : StrF x) : Sh 50 0 (.str x) := (Sh.str h).mono (by decide) (Nat.le_refl _)
theorem Sh.hd {h : Hand} (a : StrF h.1) (b : StrF h.2) : Sh 107 1 (hd h) := Sh.tuple (n := 50) (k := 0) (m := 2) (fun d hd => by
  simp at hd
  rcases hd with rfl | rfl
  · exact Sh.strF a
  · exact Sh.strF b) (Nat.le_refl _)
theorem Sh.pd {p : Hand × Hand} (h : PairF p) : Sh 221 2 (pd p) := Sh.tuple (n := 107) (k := 1) (m := 2) (fun d hd => by
  simp at hd
  rcases hd with rfl | rfl
  · exact Sh.hd h.1.1 h.1.2
  · exact Sh.hd h.2.1 h.2.2) (Nat.le_refl _)
theorem Sh.rd {r : Row} (h : RowF r) : Sh 1564 3 (rd r) := Sh.tuple (n := 221) (k := 2) (m := 7) (fun d hd => by
  simp at hd
  rcases hd with rfl | rfl | rfl | rfl | rfl | rfl | rfl
  · exact Sh.pd h.p
  · refine Sh.mono (Sh.tuple (n := 50) (k := 0) (m := 2) (ds := [.int r.a, .int r.b]) (fun d hd => ?_) (Nat.le_refl 2)) (by decide) (by decide)
    simp at hd
    rcases hd with rfl | rfl
    · exact Sh.int h.a
    · exact Sh.int h.b
  · exact (Sh.strF h.place).mono (by decide) (by decide)
  · exact (Sh.strF h.giver).mono (by decide) (by decide)
  · exact (Sh.int h.u).mono (by decide) (by decide)
  · exact (Sh.int h.free).mono (by decide) (by decide)
  · exact (Sh.bool r.here).mono (by decide) (by decide)) (Nat.le_refl _)
structure LotF (l : Lot) : Prop where
  turn : IntF l.turn
  floor : IntF l.floor
  len : l.rows.length ≤ 100
  rows : ∀ r ∈ l.rows, RowF r
end Lw
namespace Lw
open PySem L2 PySem.W PySem.SeqAt Eg
end Lw
namespace Eg
open PySem L2 PySem.W PySem.SeqAt
theorem isT (b : Bool) : gIsB true (.bool b) = some (.bool b) := by cases b <;> rfl
theorem isF (b : Bool) : gIsB false (.bool b) = some (.bool (!b)) := by cases b <;> rfl
theorem notT (b : Bool) : gNotB true (.bool b) = some (.bool (!b)) := by cases b <;> rfl
theorem notF (b : Bool) : gNotB false (.bool b) = some (.bool b) := by cases b <;> rfl
theorem tuT (ds : List PyData) : gTuple [.tuple ds] = some (.sh (.tuple ds)) := rfl
theorem aAdd_int (a b : Int) : aAdd (.int a) (.int b) = some (.sh (.int (a + b))) := rfl
theorem gLen_list (c : List PyData) : gLen [.list c] = some (.sh (.int c.length)) := rfl
theorem gLen_tup (c : List PyData) : gLen [.tuple c] = some (.sh (.int c.length)) := rfl
theorem gLe_int (a b : Int) : gLe (.int a) (.int b) = some (.bool (decide (a ≤ b))) := by
  simp [gLe, cmpOk, alike, Eg.isNon, small, PyData.depth, dataLt_int]
  by_cases h : b < a
  · simp [h]
  · simp [h]; omega
theorem isN_n : gIsN .none = some (.bool true) := rfl
theorem isN_t (d : List PyData) : gIsN (.tuple d) = some (.bool false) := rfl
theorem isN_l (d : List PyData) : gIsN (.list d) = some (.bool false) := rfl
theorem isN_s (d : Str) : gIsN (.str d) = some (.bool false) := rfl
theorem isN_i (d : Int) : gIsN (.int d) = some (.bool false) := rfl
theorem isN_b (d : Bool) : gIsN (.bool d) = some (.bool false) := rfl
theorem notN_n : gNotN .none = some (.bool false) := rfl
theorem notN_t (d : List PyData) : gNotN (.tuple d) = some (.bool true) := rfl
theorem notN_l (d : List PyData) : gNotN (.list d) = some (.bool true) := rfl
theorem notN_s (d : Str) : gNotN (.str d) = some (.bool true) := rfl
theorem notN_i (d : Int) : gNotN (.int d) = some (.bool true) := rfl
theorem notN_b (d : Bool) : gNotN (.bool d) = some (.bool true) := rfl
theorem ix_t0 (a0 : PyData) (l : List PyData) : gIx (.tuple (a0 :: l)) (.int 0) = some a0 := by
  show L2.atI _ _ = _
  unfold L2.atI ixN
  simp
  first | done | (rw [if_pos (by omega)]; rfl)
theorem ix_t1 (a0 a1 : PyData) (l : List PyData) : gIx (.tuple (a0 :: a1 :: l)) (.int 1) = some a1 := by
  show L2.atI _ _ = _
  unfold L2.atI ixN
  simp
  first | done | (rw [if_pos (by omega)]; rfl)
theorem ix_t2 (a0 a1 a2 : PyData) (l : List PyData) : gIx (.tuple (a0 :: a1 :: a2 :: l)) (.int 2) = some a2 := by
  show L2.atI _ _ = _
  unfold L2.atI ixN
  simp
  first | done | (rw [if_pos (by omega)]; rfl)
theorem ix_t3 (a0 a1 a2 a3 : PyData) (l : List PyData) : gIx (.tuple (a0 :: a1 :: a2 :: a3 :: l)) (.int 3) = some a3 := by
  show L2.atI _ _ = _
  unfold L2.atI ixN
  simp
  first | done | (rw [if_pos (by omega)]; rfl)
theorem ix_t4 (a0 a1 a2 a3 a4 : PyData) (l : List PyData) : gIx (.tuple (a0 :: a1 :: a2 :: a3 :: a4 :: l)) (.int 4) = some a4 := by
  show L2.atI _ _ = _
  unfold L2.atI ixN
  simp
  first | done | (rw [if_pos (by omega)]; rfl)
theorem ix_t5 (a0 a1 a2 a3 a4 a5 : PyData) (l : List PyData) : gIx (.tuple (a0 :: a1 :: a2 :: a3 :: a4 :: a5 :: l)) (.int 5) = some a5 := by
  show L2.atI _ _ = _
  unfold L2.atI ixN
  simp
  first | done | (rw [if_pos (by omega)]; rfl)
theorem ix_t6 (a0 a1 a2 a3 a4 a5 a6 : PyData) (l : List PyData) : gIx (.tuple (a0 :: a1 :: a2 :: a3 :: a4 :: a5 :: a6 :: l)) (.int 6) = some a6 := by
  show L2.atI _ _ = _
  unfold L2.atI ixN
  simp
  first | done | (rw [if_pos (by omega)]; rfl)
theorem tyIs_int_int (i : Int) : gTyIs "int" (.int i) = some (.bool true) := rfl
theorem tyNot_int_int (i : Int) : gTyNot "int" (.int i) = some (.bool false) := rfl
theorem tyIs_int_bool (i : Bool) : gTyIs "int" (.bool i) = some (.bool false) := rfl
theorem tyNot_int_bool (i : Bool) : gTyNot "int" (.bool i) = some (.bool true) := rfl
theorem tyIs_int_str (i : Str) : gTyIs "int" (.str i) = some (.bool false) := rfl
theorem tyNot_int_str (i : Str) : gTyNot "int" (.str i) = some (.bool true) := rfl
theorem tyIs_int_list (i : List PyData) : gTyIs "int" (.list i) = some (.bool false) := rfl
theorem tyNot_int_list (i : List PyData) : gTyNot "int" (.list i) = some (.bool true) := rfl
theorem tyIs_int_tuple (i : List PyData) : gTyIs "int" (.tuple i) = some (.bool false) := rfl
theorem tyNot_int_tuple (i : List PyData) : gTyNot "int" (.tuple i) = some (.bool true) := rfl
theorem tyIs_int_NoneType : gTyIs "int" (.none) = some (.bool false) := rfl
theorem tyNot_int_NoneType : gTyNot "int" (.none) = some (.bool true) := rfl
theorem tyIs_bool_int (i : Int) : gTyIs "bool" (.int i) = some (.bool false) := rfl
theorem tyNot_bool_int (i : Int) : gTyNot "bool" (.int i) = some (.bool true) := rfl
theorem tyIs_bool_bool (i : Bool) : gTyIs "bool" (.bool i) = some (.bool true) := rfl
theorem tyNot_bool_bool (i : Bool) : gTyNot "bool" (.bool i) = some (.bool false) := rfl
theorem tyIs_bool_str (i : Str) : gTyIs "bool" (.str i) = some (.bool false) := rfl
theorem tyNot_bool_str (i : Str) : gTyNot "bool" (.str i) = some (.bool true) := rfl
theorem tyIs_bool_list (i : List PyData) : gTyIs "bool" (.list i) = some (.bool false) := rfl
theorem tyNot_bool_list (i : List PyData) : gTyNot "bool" (.list i) = some (.bool true) := rfl
theorem tyIs_bool_tuple (i : List PyData) : gTyIs "bool" (.tuple i) = some (.bool false) := rfl
theorem tyNot_bool_tuple (i : List PyData) : gTyNot "bool" (.tuple i) = some (.bool true) := rfl
theorem tyIs_bool_NoneType : gTyIs "bool" (.none) = some (.bool false) := rfl
theorem tyNot_bool_NoneType : gTyNot "bool" (.none) = some (.bool true) := rfl
theorem tyIs_str_int (i : Int) : gTyIs "str" (.int i) = some (.bool false) := rfl
theorem tyNot_str_int (i : Int) : gTyNot "str" (.int i) = some (.bool true) := rfl
theorem tyIs_str_bool (i : Bool) : gTyIs "str" (.bool i) = some (.bool false) := rfl
theorem tyNot_str_bool (i : Bool) : gTyNot "str" (.bool i) = some (.bool true) := rfl
theorem tyIs_str_str (i : Str) : gTyIs "str" (.str i) = some (.bool true) := rfl
theorem tyNot_str_str (i : Str) : gTyNot "str" (.str i) = some (.bool false) := rfl
theorem tyIs_str_list (i : List PyData) : gTyIs "str" (.list i) = some (.bool false) := rfl
theorem tyNot_str_list (i : List PyData) : gTyNot "str" (.list i) = some (.bool true) := rfl
theorem tyIs_str_tuple (i : List PyData) : gTyIs "str" (.tuple i) = some (.bool false) := rfl
theorem tyNot_str_tuple (i : List PyData) : gTyNot "str" (.tuple i) = some (.bool true) := rfl
theorem tyIs_str_NoneType : gTyIs "str" (.none) = some (.bool false) := rfl
theorem tyNot_str_NoneType : gTyNot "str" (.none) = some (.bool true) := rfl
theorem tyIs_list_int (i : Int) : gTyIs "list" (.int i) = some (.bool false) := rfl
theorem tyNot_list_int (i : Int) : gTyNot "list" (.int i) = some (.bool true) := rfl
theorem tyIs_list_bool (i : Bool) : gTyIs "list" (.bool i) = some (.bool false) := rfl
theorem tyNot_list_bool (i : Bool) : gTyNot "list" (.bool i) = some (.bool true) := rfl
theorem tyIs_list_str (i : Str) : gTyIs "list" (.str i) = some (.bool false) := rfl
theorem tyNot_list_str (i : Str) : gTyNot "list" (.str i) = some (.bool true) := rfl
theorem tyIs_list_list (i : List PyData) : gTyIs "list" (.list i) = some (.bool true) := rfl
theorem tyNot_list_list (i : List PyData) : gTyNot "list" (.list i) = some (.bool false) := rfl
theorem tyIs_list_tuple (i : List PyData) : gTyIs "list" (.tuple i) = some (.bool false) := rfl
theorem tyNot_list_tuple (i : List PyData) : gTyNot "list" (.tuple i) = some (.bool true) := rfl
theorem tyIs_list_NoneType : gTyIs "list" (.none) = some (.bool false) := rfl
theorem tyNot_list_NoneType : gTyNot "list" (.none) = some (.bool true) := rfl
theorem tyIs_tuple_int (i : Int) : gTyIs "tuple" (.int i) = some (.bool false) := rfl
theorem tyNot_tuple_int (i : Int) : gTyNot "tuple" (.int i) = some (.bool true) := rfl
theorem tyIs_tuple_bool (i : Bool) : gTyIs "tuple" (.bool i) = some (.bool false) := rfl
theorem tyNot_tuple_bool (i : Bool) : gTyNot "tuple" (.bool i) = some (.bool true) := rfl
theorem tyIs_tuple_str (i : Str) : gTyIs "tuple" (.str i) = some (.bool false) := rfl
theorem tyNot_tuple_str (i : Str) : gTyNot "tuple" (.str i) = some (.bool true) := rfl
theorem tyIs_tuple_list (i : List PyData) : gTyIs "tuple" (.list i) = some (.bool false) := rfl
theorem tyNot_tuple_list (i : List PyData) : gTyNot "tuple" (.list i) = some (.bool true) := rfl
theorem tyIs_tuple_tuple (i : List PyData) : gTyIs "tuple" (.tuple i) = some (.bool true) := rfl
theorem tyNot_tuple_tuple (i : List PyData) : gTyNot "tuple" (.tuple i) = some (.bool false) := rfl
theorem tyIs_tuple_NoneType : gTyIs "tuple" (.none) = some (.bool false) := rfl
theorem tyNot_tuple_NoneType : gTyNot "tuple" (.none) = some (.bool true) := rfl
end Eg
local macro_rules | `(tactic| simp! only [$ls,*]) => `(tactic| simp -implicitDefEqProofs only [Eg.v_bind, Eg.v_go, Eg.v_ret, Eg.v_get, Eg.v_lift, Eg.v_opt, Eg.v_seq, Eg.v_sqn, Eg.v_sqr, Eg.v_sqb, Eg.v_sqc, Eg.v_set, Eg.v_sret, Eg.v_if, Eg.v_mif, Eg.v_next, Eg.v_expr, Eg.v_dat, Eg.v_slot, Eg.v_sd, Eg.v_so, Eg.v_m2, Eg.v_m2k, Eg.v_m1, Eg.v_m1k, Eg.v_mL, Eg.v_mLk, Eg.v_rl0, Eg.v_rl1, Eg.v_nil, Eg.v_cons, Eg.v_fix, Eg.v_fix0, Eg.v_fix1, Eg.v_fzs, Eg.v_fzo, Eg.v_ab, Eg.v_not, Eg.v_and, Eg.v_or, Eg.v_ai, Eg.v_fn, Eg.v_fin, Eg.v_fin2, Eg.v_kp0, Eg.v_kpt, Eg.v_kpf, Eg.v_slo, Eg.v_mslot, Eg.v_name, Eg.v_nms, Eg.v_nmo, Eg.v_take, Eg.v_tks, Eg.v_tko, Eg.v_has, Eg.v_hask, Eg.v_dget, Eg.v_dgk, Eg.v_dgo, Eg.v_put, Eg.v_putk, Eg.v_puto, Eg.v_app, Eg.v_apo, Eg.v_ol, Eg.v_olk, Eg.v_callO, Eg.v_coK, Eg.v_coO, Eg.v_coR, Eg.v_as0, Eg.v_asd, Eg.v_ass, Eg.v_asod, Eg.v_asoc, Eg.v_ason, Eg.v_call, Eg.v_caO, Eg.v_caR, Eg.v_for, Eg.v_lpO, Eg.v_lpn, Eg.v_lpr, Eg.v_tn, Eg.v_sil, Eg.v_sit, Eg.v_par, Eg.v_un, List.map_cons, List.map_nil, List.getElem?_cons_zero, List.getElem?_cons_succ, List.set_cons_zero, List.set_cons_succ, List.replicate_succ, List.replicate_zero, List.cons_append, List.nil_append, Option.bind_eq_bind, Option.bind_some, Option.map_some, if_true, Bool.false_eq_true, if_false, Bool.not_true, Bool.not_false, Eg.v_chain, Eg.v_op2, Eg.v_txt, Eg.v_tt, Eg.v_tl, Eg.v_go0, Eg.v_go1, Eg.isT, Eg.isF, Eg.notT, Eg.notF, Eg.v_truB, Eg.v_truI, Eg.v_truL, Eg.v_truT, Eg.v_truN, Eg.v_andV, Eg.v_orV, Eg.v_notV, Eg.v_neg, Eg.tp0, Eg.tp1, Eg.tp2, Eg.tp3, Eg.tp4, Eg.tp5, Eg.tp6, Eg.tp7, Eg.ls0, Eg.ls1, Eg.ls2, Eg.ls3, Eg.ls4, Eg.ls5, Eg.ls6, Eg.ls7, Eg.tuL, Eg.tuT, decide_true, decide_false, Eg.v_sl, Eg.gLen_list, Eg.gLen_tup, Eg.gGt_int, Eg.gLt_int, Eg.gGe_int, Eg.gLe_int, Eg.gEq_int, Eg.gNe_int, Eg.aAdd_int, Eg.v_app2, Eg.gNe_strR, Eg.gEq_strR, List.isEmpty_nil, List.isEmpty_cons, Bool.true_and, Bool.false_and, Bool.and_true, Bool.and_false, eq_self, Option.getD_some, Eg.isN_n, Eg.isN_t, Eg.isN_l, Eg.isN_s, Eg.isN_i, Eg.isN_b, Eg.notN_n, Eg.notN_t, Eg.notN_l, Eg.notN_s, Eg.notN_i, Eg.notN_b, Eg.ix_t0, Eg.ix_t1, Eg.ix_t2, Eg.ix_t3, Eg.ix_t4, Eg.ix_t5, Eg.ix_t6, Eg.tyIs_int_int, Eg.tyNot_int_int, Eg.tyIs_int_bool, Eg.tyNot_int_bool, Eg.tyIs_int_str, Eg.tyNot_int_str, Eg.tyIs_int_list, Eg.tyNot_int_list, Eg.tyIs_int_tuple, Eg.tyNot_int_tuple, Eg.tyIs_int_NoneType, Eg.tyNot_int_NoneType, Eg.tyIs_bool_int, Eg.tyNot_bool_int, Eg.tyIs_bool_bool, Eg.tyNot_bool_bool, Eg.tyIs_bool_str, Eg.tyNot_bool_str, Eg.tyIs_bool_list, Eg.tyNot_bool_list, Eg.tyIs_bool_tuple, Eg.tyNot_bool_tuple, Eg.tyIs_bool_NoneType, Eg.tyNot_bool_NoneType, Eg.tyIs_str_int, Eg.tyNot_str_int, Eg.tyIs_str_bool, Eg.tyNot_str_bool, Eg.tyIs_str_str, Eg.tyNot_str_str, Eg.tyIs_str_list, Eg.tyNot_str_list, Eg.tyIs_str_tuple, Eg.tyNot_str_tuple, Eg.tyIs_str_NoneType, Eg.tyNot_str_NoneType, Eg.tyIs_list_int, Eg.tyNot_list_int, Eg.tyIs_list_bool, Eg.tyNot_list_bool, Eg.tyIs_list_str, Eg.tyNot_list_str, Eg.tyIs_list_list, Eg.tyNot_list_list, Eg.tyIs_list_tuple, Eg.tyNot_list_tuple, Eg.tyIs_list_NoneType, Eg.tyNot_list_NoneType, Eg.tyIs_tuple_int, Eg.tyNot_tuple_int, Eg.tyIs_tuple_bool, Eg.tyNot_tuple_bool, Eg.tyIs_tuple_str, Eg.tyNot_tuple_str, Eg.tyIs_tuple_list, Eg.tyNot_tuple_list, Eg.tyIs_tuple_tuple, Eg.tyNot_tuple_tuple, Eg.tyIs_tuple_NoneType, Eg.tyNot_tuple_NoneType, $ls,*])
namespace Eg
open PySem L2 PySem.W PySem.SeqAt
mutual
def wt : PyData → Nat
  | .none => 4
  | .bool _ => 5
  | .int i => (PyData.int i).shown.length
  | .str x => (PyData.str x).shown.length + x.length + 2
  | .list ds => wtAll ds + 3
  | .tuple ds => wtAll ds + 3
  | .dict _ => 0
def wtAll : List PyData → Nat
  | [] => 0
  | d :: ds => wt d + 2 + wtAll ds
end
mutual
def good (m : Nat) : PyData → Bool
  | .none => true
  | .bool _ => true
  | .int i => decide (i.natAbs < 10 ^ m)
  | .str _ => true
  | .list ds => goodAll m ds
  | .tuple ds => goodAll m ds
  | .dict _ => false
def goodAll (m : Nat) : List PyData → Bool
  | [] => true
  | d :: ds => good m d && goodAll m ds
end
theorem goodAll_mem {m : Nat} : ∀ {ds : List PyData}, goodAll m ds = true ↔ ∀ d ∈ ds, good m d = true
  | [] => by simp [goodAll]
  | d :: ds => by
    have := goodAll_mem (m := m) (ds := ds)
    simp [goodAll, this]
mutual
theorem good_mono {m m' : Nat} (h : m ≤ m') : ∀ d : PyData, good m d = true → good m' d = true
  | .none, _ => by rw [good]
  | .bool _, _ => by rw [good]
  | .str _, _ => by rw [good]
  | .int i, g => by
    rw [good] at g ⊢
    exact decide_eq_true (Nat.lt_of_lt_of_le (of_decide_eq_true g) (Nat.pow_le_pow_right (by decide) h))
  | .list ds, g => by rw [good] at g ⊢; exact goodAll_mono h ds g
  | .tuple ds, g => by rw [good] at g ⊢; exact goodAll_mono h ds g
  | .dict _, g => by simp [good] at g
theorem goodAll_mono {m m' : Nat} (h : m ≤ m') : ∀ ds : List PyData, goodAll m ds = true → goodAll m' ds = true
  | [], _ => by rw [goodAll]
  | d :: ds, g => by
    rw [goodAll, Bool.and_eq_true] at g ⊢
    exact ⟨good_mono h d g.1, goodAll_mono h ds g.2⟩
end
theorem wtAll_mem : ∀ {ds : List PyData} {d : PyData}, d ∈ ds → wt d + 2 ≤ wtAll ds
  | e :: ds, d, h => by
    simp only [wtAll]
    rcases List.mem_cons.mp h with rfl | h
    · omega
    · have := wtAll_mem h; omega
theorem wtAll_append : ∀ (ds es : List PyData), wtAll (ds ++ es) = wtAll ds + wtAll es
  | [], es => by simp [wtAll]
  | d :: ds, es => by simp [wtAll, wtAll_append ds es]; omega
theorem wtAll_len : ∀ ds : List PyData, 2 * ds.length ≤ wtAll ds
  | [] => by simp [wtAll]
  | d :: ds => by have := wtAll_len ds; simp [wtAll]; omega
theorem wtAll_sub {ds es : List PyData} (h : List.Sublist ds es) : wtAll ds ≤ wtAll es := by
  induction h with
  | slnil => exact Nat.le_refl _
  | cons a _ ih => simp only [wtAll]; omega
  | cons_cons a _ ih => simp only [wtAll]; omega
mutual
theorem shown_wt {m : Nat} (hm : m ≤ 400) : ∀ d : PyData, good m d = true → d.shown.length ≤ wt d ∧ d.showable = true ∧ alike d d = true
  | .none, _ => by refine ⟨by decide +kernel, by rw [PyData.showable], by simp [alike]⟩
  | .bool b, _ => by cases b <;> exact ⟨by decide +kernel, by rw [PyData.showable], by simp [alike]⟩
  | .int i, h => by
    rw [good] at h
    have f := Fd.int (n := 400) (i := i) (Nat.lt_of_lt_of_le (of_decide_eq_true h) (Nat.pow_le_pow_right (by decide) hm))
    exact ⟨by rw [wt]; exact Nat.le_refl _, f.1.1, f.2⟩
  | .str x, _ => ⟨by rw [wt]; omega, by rw [PyData.showable], by simp [alike]⟩
  | .list ds, h => by
    rw [good] at h
    have := shown_wtAll hm ds h
    refine ⟨?_, by rw [PyData.showable]; exact this.2.1, by rw [alike]; exact this.2.2⟩
    rw [PyData.shown, wt]
    have h1 := listText_most (PyData.shownAll ds)
    omega
  | .tuple ds, h => by
    rw [good] at h
    have := shown_wtAll hm ds h
    refine ⟨?_, by rw [PyData.showable]; exact this.2.1, by rw [alike]; exact this.2.2⟩
    rw [PyData.shown, wt]
    have h1 := tupleText_most (PyData.shownAll ds)
    omega
  | .dict _, h => by simp [good] at h
theorem shown_wtAll {m : Nat} (hm : m ≤ 400) : ∀ ds : List PyData, goodAll m ds = true → PySem.piled (PyData.shownAll ds) ≤ wtAll ds ∧ PyData.showableAll ds = true ∧ alikeAll ds ds = true
  | [], _ => by simp [PyData.shownAll, PySem.piled, PyData.showableAll, alikeAll]
  | d :: ds, h => by
    rw [goodAll, Bool.and_eq_true] at h
    have h1 := shown_wt hm d h.1
    have h2 := shown_wtAll hm ds h.2
    refine ⟨?_, ?_, ?_⟩
    · rw [PyData.shownAll, PySem.piled_cons, wtAll]; omega
    · rw [PyData.showableAll, h1.2.1, h2.2.1]; rfl
    · rw [alikeAll, h1.2.2, h2.2.2]; rfl
end
structure Th (m n k : Nat) (d : PyData) : Prop where
  w : wt d ≤ n
  k : d.depth ≤ k
  g : good m d = true
  m : m ≤ 400
theorem Th.fd {m n k : Nat} {d : PyData} (h : Th m n k d) : Fd n k d := ⟨⟨(shown_wt h.m d h.g).2.1, Nat.le_trans (shown_wt h.m d h.g).1 h.w, h.k⟩, (shown_wt h.m d h.g).2.2⟩
theorem Th.mono {m m' n n' k k' : Nat} {d : PyData} (h : Th m n k d) (hn : n ≤ n') (hk : k ≤ k') (hm : m ≤ m' := by omega) (h4 : m' ≤ 400 := by omega) : Th m' n' k' d := ⟨Nat.le_trans h.w hn, Nat.le_trans h.k hk, good_mono hm d h.g, h4⟩
structure Ths (m n k : Nat) (ds : List PyData) : Prop where
  w : wtAll ds ≤ n
  k : ∀ d ∈ ds, d.depth ≤ k
  g : ∀ d ∈ ds, good m d = true
  m : m ≤ 400
theorem Ths.nil {m n k : Nat} (hm : m ≤ 400) : Ths m n k [] := ⟨Nat.zero_le _, (fun d h => by cases h), (fun d h => by cases h), hm⟩
theorem Ths.cons {m n n' k : Nat} {d : PyData} {ds : List PyData} (h : Th m n k d) (t : Ths m n' k ds) : Ths m (n + 2 + n') k (d :: ds) :=
  ⟨by have := h.w; have := t.w; simp only [wtAll]; omega, fun x hx => by
    rcases List.mem_cons.mp hx with rfl | hx
    · exact h.k
    · exact t.k x hx, fun x hx => by
    rcases List.mem_cons.mp hx with rfl | hx
    · exact h.g
    · exact t.g x hx, h.m⟩
theorem Ths.mono {m m' n n' k k' : Nat} {ds : List PyData} (h : Ths m n k ds) (hn : n ≤ n') (hk : k ≤ k') (hm : m ≤ m' := by omega) (h4 : m' ≤ 400 := by omega) : Ths m' n' k' ds := ⟨Nat.le_trans h.w hn, fun d hd => Nat.le_trans (h.k d hd) hk, fun d hd => good_mono hm d (h.g d hd), h4⟩
theorem Ths.append {m n n' k : Nat} {ds es : List PyData} (h : Ths m n k ds) (t : Ths m n' k es) : Ths m (n + n') k (ds ++ es) :=
  ⟨by rw [wtAll_append]; have := h.w; have := t.w; omega, fun x hx => (List.mem_append.mp hx).elim (h.k x) (t.k x), fun x hx => (List.mem_append.mp hx).elim (h.g x) (t.g x), h.m⟩
theorem Ths.sub {m n k : Nat} {ds es : List PyData} (h : Ths m n k ds) (s : List.Sublist es ds) : Ths m n k es := ⟨Nat.le_trans (wtAll_sub s) h.w, fun d hd => h.k d (s.mem hd), fun d hd => h.g d (s.mem hd), h.m⟩
theorem Ths.len {m n k : Nat} {ds : List PyData} (h : Ths m n k ds) : 2 * ds.length ≤ n := Nat.le_trans (wtAll_len ds) h.w
theorem Ths.mem {m n k : Nat} {ds : List PyData} {d : PyData} (h : Ths m n k ds) (hd : d ∈ ds) : Th m n k d := ⟨by have := wtAll_mem hd; have := h.w; omega, h.k d hd, h.g d hd, h.m⟩
theorem Ths.of {m k : Nat} {ds : List PyData} (hk : ∀ d ∈ ds, d.depth ≤ k) (hg : ∀ d ∈ ds, good m d = true) (hm : m ≤ 400) : Ths m (wtAll ds) k ds := ⟨Nat.le_refl _, hk, hg, hm⟩
theorem Ths.tup {m n k : Nat} {ds : List PyData} (h : Ths m n k ds) : Th m (n + 3) (k + 1) (.tuple ds) := ⟨by rw [wt]; have := h.w; omega, by rw [PyData.depth]; have := depth_all k h.k; omega, by rw [good]; exact goodAll_mem.mpr h.g, h.m⟩
theorem Ths.lst {m n k : Nat} {ds : List PyData} (h : Ths m n k ds) : Th m (n + 3) (k + 1) (.list ds) := ⟨by rw [wt]; have := h.w; omega, by rw [PyData.depth]; have := depth_all k h.k; omega, by rw [good]; exact goodAll_mem.mpr h.g, h.m⟩
theorem Th.int {m n : Nat} {i : Int} (h : i.natAbs < 10 ^ n) (hn : n ≤ m) (hm : m ≤ 400) (h0 : 0 < n := by decide) : Th m (n + 1) 0 (.int i) := by
  have f := Fd.int h h0 (Nat.le_trans hn hm)
  refine ⟨by rw [wt]; exact f.1.2.1, by rw [PyData.depth]; exact Nat.le_refl _, ?_, hm⟩
  rw [good]
  exact decide_eq_true (Nat.lt_of_lt_of_le h (Nat.pow_le_pow_right (by decide) hn))
theorem Th.str {m n : Nat} {x : Str} (h : (reprText x).length + x.length ≤ n) (hm : m ≤ 400) : Th m (n + 2) 0 (.str x) := ⟨by rw [wt, PyData.shown]; omega, by rw [PyData.depth]; exact Nat.le_refl _, by rw [good], hm⟩
theorem Th.bool {m : Nat} (b : Bool) (hm : m ≤ 400) : Th m 5 0 (.bool b) := ⟨by rw [wt]; exact Nat.le_refl _, by rw [PyData.depth]; exact Nat.le_refl _, by rw [good], hm⟩
theorem Th.none {m : Nat} (hm : m ≤ 400) : Th m 4 0 .none := ⟨by rw [wt]; exact Nat.le_refl _, by rw [PyData.depth]; exact Nat.le_refl _, by rw [good], hm⟩
def thB (m n k : Nat) (d : PyData) : Bool := decide (wt d ≤ n) && decide (d.depth ≤ k) && good m d
theorem Th.ofB {m n k : Nat} {d : PyData} (h : thB m n k d = true) (hm : m ≤ 400) : Th m n k d := by
  simp only [thB, Bool.and_eq_true, decide_eq_true_eq] at h
  exact ⟨h.1.1, h.1.2, h.2, hm⟩
theorem isi_i (i : Int) : gIsi "int" (.int i) = some (.bool true) := by
  show Option.map PyData.bool (kitB "int" "int") = _
  rw [show kitB "int" "int" = some true by decide +kernel]; rfl
theorem isi_b (i : Bool) : gIsi "int" (.bool i) = some (.bool true) := by
  show Option.map PyData.bool (kitB "bool" "int") = _
  rw [show kitB "bool" "int" = some true by decide +kernel]; rfl
theorem isi_s (i : Str) : gIsi "int" (.str i) = some (.bool false) := by
  show Option.map PyData.bool (kitB "str" "int") = _
  rw [show kitB "str" "int" = some false by decide +kernel]; rfl
theorem isi_n : gIsi "int" .none = some (.bool false) := by
  show Option.map PyData.bool (kitB "NoneType" "int") = _
  rw [show kitB "NoneType" "int" = some false by decide +kernel]; rfl
theorem isi_l (i : List PyData) : gIsi "int" (.list i) = some (.bool false) := by
  show Option.map PyData.bool (kitB "list" "int") = _
  rw [show kitB "list" "int" = some false by decide +kernel]; rfl
theorem isi_t (i : List PyData) : gIsi "int" (.tuple i) = some (.bool false) := by
  show Option.map PyData.bool (kitB "tuple" "int") = _
  rw [show kitB "tuple" "int" = some false by decide +kernel]; rfl
theorem isbool_i (i : Int) : gIsi "bool" (.int i) = some (.bool false) := by
  show Option.map PyData.bool (kitB "int" "bool") = _
  rw [show kitB "int" "bool" = some false by decide +kernel]; rfl
theorem isbool_b (i : Bool) : gIsi "bool" (.bool i) = some (.bool true) := by
  show Option.map PyData.bool (kitB "bool" "bool") = _
  rw [show kitB "bool" "bool" = some true by decide +kernel]; rfl
theorem isbool_s (i : Str) : gIsi "bool" (.str i) = some (.bool false) := by
  show Option.map PyData.bool (kitB "str" "bool") = _
  rw [show kitB "str" "bool" = some false by decide +kernel]; rfl
theorem isbool_n : gIsi "bool" (.none) = some (.bool false) := by
  show Option.map PyData.bool (kitB "NoneType" "bool") = _
  rw [show kitB "NoneType" "bool" = some false by decide +kernel]; rfl
theorem isbool_l (i : List PyData) : gIsi "bool" (.list i) = some (.bool false) := by
  show Option.map PyData.bool (kitB "list" "bool") = _
  rw [show kitB "list" "bool" = some false by decide +kernel]; rfl
theorem isbool_t (i : List PyData) : gIsi "bool" (.tuple i) = some (.bool false) := by
  show Option.map PyData.bool (kitB "tuple" "bool") = _
  rw [show kitB "tuple" "bool" = some false by decide +kernel]; rfl
theorem isstr_i (i : Int) : gIsi "str" (.int i) = some (.bool false) := by
  show Option.map PyData.bool (kitB "int" "str") = _
  rw [show kitB "int" "str" = some false by decide +kernel]; rfl
theorem isstr_b (i : Bool) : gIsi "str" (.bool i) = some (.bool false) := by
  show Option.map PyData.bool (kitB "bool" "str") = _
  rw [show kitB "bool" "str" = some false by decide +kernel]; rfl
theorem isstr_s (i : Str) : gIsi "str" (.str i) = some (.bool true) := by
  show Option.map PyData.bool (kitB "str" "str") = _
  rw [show kitB "str" "str" = some true by decide +kernel]; rfl
theorem isstr_n : gIsi "str" (.none) = some (.bool false) := by
  show Option.map PyData.bool (kitB "NoneType" "str") = _
  rw [show kitB "NoneType" "str" = some false by decide +kernel]; rfl
theorem isstr_l (i : List PyData) : gIsi "str" (.list i) = some (.bool false) := by
  show Option.map PyData.bool (kitB "list" "str") = _
  rw [show kitB "list" "str" = some false by decide +kernel]; rfl
theorem isstr_t (i : List PyData) : gIsi "str" (.tuple i) = some (.bool false) := by
  show Option.map PyData.bool (kitB "tuple" "str") = _
  rw [show kitB "tuple" "str" = some false by decide +kernel]; rfl
theorem islist_i (i : Int) : gIsi "list" (.int i) = some (.bool false) := by
  show Option.map PyData.bool (kitB "int" "list") = _
  rw [show kitB "int" "list" = some false by decide +kernel]; rfl
theorem islist_b (i : Bool) : gIsi "list" (.bool i) = some (.bool false) := by
  show Option.map PyData.bool (kitB "bool" "list") = _
  rw [show kitB "bool" "list" = some false by decide +kernel]; rfl
theorem islist_s (i : Str) : gIsi "list" (.str i) = some (.bool false) := by
  show Option.map PyData.bool (kitB "str" "list") = _
  rw [show kitB "str" "list" = some false by decide +kernel]; rfl
theorem islist_n : gIsi "list" (.none) = some (.bool false) := by
  show Option.map PyData.bool (kitB "NoneType" "list") = _
  rw [show kitB "NoneType" "list" = some false by decide +kernel]; rfl
theorem islist_l (i : List PyData) : gIsi "list" (.list i) = some (.bool true) := by
  show Option.map PyData.bool (kitB "list" "list") = _
  rw [show kitB "list" "list" = some true by decide +kernel]; rfl
theorem islist_t (i : List PyData) : gIsi "list" (.tuple i) = some (.bool false) := by
  show Option.map PyData.bool (kitB "tuple" "list") = _
  rw [show kitB "tuple" "list" = some false by decide +kernel]; rfl
theorem istuple_i (i : Int) : gIsi "tuple" (.int i) = some (.bool false) := by
  show Option.map PyData.bool (kitB "int" "tuple") = _
  rw [show kitB "int" "tuple" = some false by decide +kernel]; rfl
theorem istuple_b (i : Bool) : gIsi "tuple" (.bool i) = some (.bool false) := by
  show Option.map PyData.bool (kitB "bool" "tuple") = _
  rw [show kitB "bool" "tuple" = some false by decide +kernel]; rfl
theorem istuple_s (i : Str) : gIsi "tuple" (.str i) = some (.bool false) := by
  show Option.map PyData.bool (kitB "str" "tuple") = _
  rw [show kitB "str" "tuple" = some false by decide +kernel]; rfl
theorem istuple_n : gIsi "tuple" (.none) = some (.bool false) := by
  show Option.map PyData.bool (kitB "NoneType" "tuple") = _
  rw [show kitB "NoneType" "tuple" = some false by decide +kernel]; rfl
theorem istuple_l (i : List PyData) : gIsi "tuple" (.list i) = some (.bool false) := by
  show Option.map PyData.bool (kitB "list" "tuple") = _
  rw [show kitB "list" "tuple" = some false by decide +kernel]; rfl
theorem istuple_t (i : List PyData) : gIsi "tuple" (.tuple i) = some (.bool true) := by
  show Option.map PyData.bool (kitB "tuple" "tuple") = _
  rw [show kitB "tuple" "tuple" = some true by decide +kernel]; rfl
theorem gSub_int (a b : Int) : Eg.gSub (.int a) (.int b) = some (.int (a - b)) := rfl
theorem v_coOl {ρ : Rho} (i : Nat) (f : Fn) (xs : List PyData) (os : List OD) : coO (some (some (.ol xs))) i f (some os) ρ = coR i ρ (f (some (.ol xs) :: os.map some)) := rfl
end Eg
local macro_rules | `(tactic| simp?! only [$ls,*]) => `(tactic| simp -implicitDefEqProofs only [Eg.v_bind, Eg.v_go, Eg.v_ret, Eg.v_get, Eg.v_lift, Eg.v_opt, Eg.v_seq, Eg.v_sqn, Eg.v_sqr, Eg.v_sqb, Eg.v_sqc, Eg.v_set, Eg.v_sret, Eg.v_if, Eg.v_mif, Eg.v_next, Eg.v_expr, Eg.v_dat, Eg.v_slot, Eg.v_sd, Eg.v_so, Eg.v_m2, Eg.v_m2k, Eg.v_m1, Eg.v_m1k, Eg.v_mL, Eg.v_mLk, Eg.v_rl0, Eg.v_rl1, Eg.v_nil, Eg.v_cons, Eg.v_fix, Eg.v_fix0, Eg.v_fix1, Eg.v_fzs, Eg.v_fzo, Eg.v_ab, Eg.v_not, Eg.v_and, Eg.v_or, Eg.v_ai, Eg.v_fn, Eg.v_fin, Eg.v_fin2, Eg.v_kp0, Eg.v_kpt, Eg.v_kpf, Eg.v_slo, Eg.v_mslot, Eg.v_name, Eg.v_nms, Eg.v_nmo, Eg.v_take, Eg.v_tks, Eg.v_tko, Eg.v_has, Eg.v_hask, Eg.v_dget, Eg.v_dgk, Eg.v_dgo, Eg.v_put, Eg.v_putk, Eg.v_puto, Eg.v_app, Eg.v_apo, Eg.v_ol, Eg.v_olk, Eg.v_callO, Eg.v_coK, Eg.v_coO, Eg.v_coR, Eg.v_as0, Eg.v_asd, Eg.v_ass, Eg.v_asod, Eg.v_asoc, Eg.v_ason, Eg.v_call, Eg.v_caO, Eg.v_caR, Eg.v_for, Eg.v_lpO, Eg.v_lpn, Eg.v_lpr, Eg.v_tn, Eg.v_sil, Eg.v_sit, Eg.v_par, Eg.v_un, List.map_cons, List.map_nil, List.getElem?_cons_zero, List.getElem?_cons_succ, List.set_cons_zero, List.set_cons_succ, List.replicate_succ, List.replicate_zero, List.cons_append, List.nil_append, Option.bind_eq_bind, Option.bind_some, Option.map_some, if_true, Bool.false_eq_true, if_false, Bool.not_true, Bool.not_false, Eg.v_chain, Eg.v_op2, Eg.v_txt, Eg.v_tt, Eg.v_tl, Eg.v_go0, Eg.v_go1, Eg.isT, Eg.isF, Eg.notT, Eg.notF, Eg.v_truB, Eg.v_truI, Eg.v_truL, Eg.v_truT, Eg.v_truN, Eg.v_andV, Eg.v_orV, Eg.v_notV, Eg.v_neg, Eg.tp0, Eg.tp1, Eg.tp2, Eg.tp3, Eg.tp4, Eg.tp5, Eg.tp6, Eg.tp7, Eg.ls0, Eg.ls1, Eg.ls2, Eg.ls3, Eg.ls4, Eg.ls5, Eg.ls6, Eg.ls7, Eg.tuL, Eg.tuT, decide_true, decide_false, Eg.v_sl, Eg.gLen_list, Eg.gLen_tup, Eg.gGt_int, Eg.gLt_int, Eg.gGe_int, Eg.gLe_int, Eg.gEq_int, Eg.gNe_int, Eg.aAdd_int, Eg.v_app2, Eg.gNe_strR, Eg.gEq_strR, List.isEmpty_nil, List.isEmpty_cons, Bool.true_and, Bool.false_and, Bool.and_true, Bool.and_false, eq_self, Option.getD_some, Eg.isN_n, Eg.isN_t, Eg.isN_l, Eg.isN_s, Eg.isN_i, Eg.isN_b, Eg.notN_n, Eg.notN_t, Eg.notN_l, Eg.notN_s, Eg.notN_i, Eg.notN_b, Eg.ix_t0, Eg.ix_t1, Eg.ix_t2, Eg.ix_t3, Eg.ix_t4, Eg.ix_t5, Eg.ix_t6, Eg.tyIs_int_int, Eg.tyNot_int_int, Eg.tyIs_int_bool, Eg.tyNot_int_bool, Eg.tyIs_int_str, Eg.tyNot_int_str, Eg.tyIs_int_list, Eg.tyNot_int_list, Eg.tyIs_int_tuple, Eg.tyNot_int_tuple, Eg.tyIs_int_NoneType, Eg.tyNot_int_NoneType, Eg.tyIs_bool_int, Eg.tyNot_bool_int, Eg.tyIs_bool_bool, Eg.tyNot_bool_bool, Eg.tyIs_bool_str, Eg.tyNot_bool_str, Eg.tyIs_bool_list, Eg.tyNot_bool_list, Eg.tyIs_bool_tuple, Eg.tyNot_bool_tuple, Eg.tyIs_bool_NoneType, Eg.tyNot_bool_NoneType, Eg.tyIs_str_int, Eg.tyNot_str_int, Eg.tyIs_str_bool, Eg.tyNot_str_bool, Eg.tyIs_str_str, Eg.tyNot_str_str, Eg.tyIs_str_list, Eg.tyNot_str_list, Eg.tyIs_str_tuple, Eg.tyNot_str_tuple, Eg.tyIs_str_NoneType, Eg.tyNot_str_NoneType, Eg.tyIs_list_int, Eg.tyNot_list_int, Eg.tyIs_list_bool, Eg.tyNot_list_bool, Eg.tyIs_list_str, Eg.tyNot_list_str, Eg.tyIs_list_list, Eg.tyNot_list_list, Eg.tyIs_list_tuple, Eg.tyNot_list_tuple, Eg.tyIs_list_NoneType, Eg.tyNot_list_NoneType, Eg.tyIs_tuple_int, Eg.tyNot_tuple_int, Eg.tyIs_tuple_bool, Eg.tyNot_tuple_bool, Eg.tyIs_tuple_str, Eg.tyNot_tuple_str, Eg.tyIs_tuple_list, Eg.tyNot_tuple_list, Eg.tyIs_tuple_tuple, Eg.tyNot_tuple_tuple, Eg.tyIs_tuple_NoneType, Eg.tyNot_tuple_NoneType, Eg.v_ext, Eg.v_putL, Eg.v_pick, Eg.v_pk0, Eg.v_pkl, Eg.v_pkr, List.getD_cons_zero, List.getD_cons_succ, Eg.v_coOl, Eg.gSub_int, Eg.isi_i, Eg.isi_b, Eg.isi_s, Eg.isi_n, Eg.isi_l, Eg.isi_t, Eg.isbool_i, Eg.isbool_b, Eg.isbool_s, Eg.isbool_n, Eg.isbool_l, Eg.isbool_t, Eg.isstr_i, Eg.isstr_b, Eg.isstr_s, Eg.isstr_n, Eg.isstr_l, Eg.isstr_t, Eg.islist_i, Eg.islist_b, Eg.islist_s, Eg.islist_n, Eg.islist_l, Eg.islist_t, Eg.istuple_i, Eg.istuple_b, Eg.istuple_s, Eg.istuple_n, Eg.istuple_l, Eg.istuple_t, $ls,*])
namespace HT
open PySem PySem.Spec PyProof.Rows
section
variable {prog : Program} {w : World} {A : Around} {E : Value → Shared → Prop} {s : Shared}
end
end HT
namespace L2
open PySem PySem.Spec PyProof.Rows
section
variable {X : Cx}
end
end L2
namespace Eg
open PySem L2 PySem.W PySem.SeqAt
section
variable [Tbs] {X : Cx} {C : Ct} {e a b c o tg iter : Expr} {es : List Expr} {pos p p1 p2 p3 apos cpos pos' : Pos} {P : List Nat} {σ σ1 : St} {ρ ρ1 : Rho} {F H F1 H1 : Hp}
def aMulT (x y : PyData) : Option OD := match x, y with
  | .tuple xs, .int k => if xs.length ≠ 0 ∧ 2 ≤ k ∧ k ≤ 1000 ∧ xs.length ≤ 1000 then some (.sh (.tuple (List.replicate k.toNat xs).flatten)) else none
  | x, y => aMulW x y
theorem ao_mulT : OpO X (binaryOp .Mult) aMulT := by
  intro pins s σ F H x y v u dx dy o Q I rx ry sub h1 h2 e q
  unfold aMulT at e
  split at e
  · split at e <;> cases e
    rename_i hz
    cases h2
    have h1' : DV X.KW F x (.tuple _) := h1
    cases h1' with
    | tup g1 k1 =>
      refine op_repT pins s σ H _ _ v u Q I rx ry ⟨_, _, _, rfl, rfl, sub.sqT g1, fun z => ?_, hz.2.1, hz.2.2.1, by rw [k1.len]; exact hz.2.2.2, fun p hp => q _ _ _ (.tup hp (k1.rep _))⟩
      have := k1.len
      rw [z] at this
      exact hz.1 this.symm
  · exact ao_mulW pins s σ F H x y v u dx dy o Q I rx ry sub h1 h2 e q
end
theorem aMulT_int {i j : Int} {a b : Nat} (h1 : i.natAbs < 2 ^ a) (h2 : j.natAbs < 2 ^ b) (ha : 0 < a ∧ a ≤ 400000 := by decide) (hb : 0 < b ∧ b ≤ 400000 := by decide) : aMulT (.int i) (.int j) = some (.sh (.int (i * j))) := gMulW_int h1 h2 ha hb
end Eg
namespace HT
open PySem PySem.Spec PyProof.Rows
section
variable {prog : Program} {w : World} {A : Around} {E : Value → Shared → Prop} {s : Shared}
end
end HT
namespace L2
open PySem PySem.Spec PyProof.Rows
section
variable {X : Cx}
end
end L2
namespace Eg
open PySem L2 PySem.W PySem.SeqAt
section
variable [Tbs] {X : Cx} {C : Ct} {e a b c o tg iter : Expr} {es : List Expr} {pos p p1 p2 p3 apos cpos pos' : Pos} {P : List Nat} {σ σ1 : St} {ρ ρ1 : Rho} {F H F1 H1 : Hp}
end
end Eg
namespace Eg
open PySem L2 PySem.W PySem.SeqAt PySem.Spec PyProof.Rows
abbrev HRow := NestedKey × Addr × Value
def RowR (p : KRow) (q : HRow) : Prop := p.1 = q.1 ∧ p.2.1 = q.2.1 ∧ RelV p.2.2 q.2.2
def kHas (kvs : List (PyData × PyData)) (k : PyData) : Bool := kvs.any fun p => decide (nk p.1 = nk k)
def kAt : List (PyData × PyData) → PyData → Option PyData
  | [], _ => none
  | p :: kvs, k => if nk p.1 = nk k then some p.2 else kAt kvs k
def kRepl (k d : PyData) (kvs : List (PyData × PyData)) : List (PyData × PyData) := kvs.map fun p => if nk p.1 = nk k then (p.1, d) else p
def kPut (kvs : List (PyData × PyData)) (k d : PyData) : List (PyData × PyData) := if kHas kvs k = true then kRepl k d kvs else kvs ++ [(k, d)]
def keyT : PyData → Bool
  | .tuple ds => keyBs ds && decide ((PyData.tuple ds).depth ≤ 8)
  | _ => false
theorem keyT_at {k : PyData} (h : keyT k = true) : keyB k = true ∧ k.depth ≤ 8 ∧ ∃ ds, k = .tuple ds := by
  cases k <;> simp only [keyT, Bool.and_eq_true, decide_eq_true_eq] at h <;> first | exact absurd h Bool.false_ne_true | skip
  exact ⟨h.1, h.2, _, rfl⟩
def lHas (L : List KRow) (n : NestedKey) : Bool := L.any fun x => decide (x.1 = n)
def lPut (L : List KRow) (n : NestedKey) (b : Addr) (v : V) : List KRow := if lHas L n = true then L.map fun x => if x.1 = n then (x.1, x.2.1, v) else x else L ++ [(n, b, v)]
theorem atKey_cons (x : HRow) (xs : List HRow) (n : NestedKey) : atKey (x :: xs) n = if x.1 = n then some x.2 else atKey xs n := by
  unfold atKey
  rw [List.find?_cons]
  by_cases e : x.1 = n <;> simp [e]
theorem atKey_has (n : NestedKey) : ∀ xs : List HRow, (atKey xs n).isSome = xs.any fun x => decide (x.1 = n)
  | [] => rfl
  | x :: xs => by
    rw [atKey_cons, List.any_cons, ← atKey_has n xs]
    by_cases e : x.1 = n <;> simp [e]
theorem kAt_has (k : PyData) : ∀ kvs, (kAt kvs k).isSome = kHas kvs k
  | [] => rfl
  | p :: kvs => by
    rw [kAt, kHas, List.any_cons, ← kHas, ← kAt_has k kvs]
    by_cases e : nk p.1 = nk k <;> simp [e]
def Fnd (K : Kw) (H : Hp) : Option PyData → Option Value → Prop
  | none, none => True
  | some d, some u => ∃ v, DV K H v d ∧ RelV v u
  | _, _ => False
section
variable [Tbs] {K : Kw} {H : Hp}
theorem KN.find (k : PyData) : ∀ {L : List KRow} {kvs : List (PyData × PyData)} {xs : List HRow}, KN K H L kvs → Paired RowR L xs → Fnd K H (kAt kvs k) ((atKey xs (nk k)).map (·.2))
  | _, _, _, .nil, .nil => trivial
  | _, _, _, .cons (k := k0) (d := d) (v := v) _ _ _ h3 t, .cons (b := x) r q => by
    rw [kAt, atKey_cons, ← r.1]
    show Fnd K H (if nk k0 = nk k then some d else _) _
    by_cases e : nk k0 = nk k
    · rw [if_pos e, if_pos e]
      exact ⟨_, h3, r.2.2⟩
    · rw [if_neg e, if_neg e]
      exact KN.find k t q
theorem KN.has (n : NestedKey) (k : PyData) (e : n = nk k) : ∀ {L : List KRow} {kvs : List (PyData × PyData)}, KN K H L kvs → lHas L n = kHas kvs k
  | _, _, .nil => rfl
  | _, _, .cons (k := k0) _ _ _ _ t => by
    have := KN.has n k e t
    unfold lHas kHas at this ⊢
    rw [List.any_cons, List.any_cons, this, e]
theorem KN.len : ∀ {L : List KRow} {kvs : List (PyData × PyData)}, KN K H L kvs → L.length = kvs.length
  | _, _, .nil => rfl
  | _, _, .cons _ _ _ _ t => by rw [List.length_cons, List.length_cons, KN.len t]
theorem KN.repl {k d : PyData} {v : V} (h : DV K H v d) : ∀ {L : List KRow} {kvs : List (PyData × PyData)}, KN K H L kvs → KN K H (L.map fun x => if x.1 = nk k then (x.1, x.2.1, v) else x) (kRepl k d kvs)
  | _, _, .nil => .nil
  | _, _, .cons (k := k0) (d := d0) (b := b0) (v := v0) h0 h1 h2 h3 t => by
    unfold kRepl
    rw [List.map_cons, List.map_cons]
    show KN K H ((if nk k0 = nk k then (nk k0, b0, v) else (nk k0, b0, v0)) :: _) ((if nk k0 = nk k then (k0, d) else (k0, d0)) :: _)
    by_cases e : nk k0 = nk k
    · rw [if_pos e, if_pos e]; exact .cons h0 h1 h2 h (KN.repl h t)
    · rw [if_neg e, if_neg e]; exact .cons h0 h1 h2 h3 (KN.repl h t)
theorem KN.snoc {k d : PyData} {b : Addr} {v : V} (kb : keyB k = true) (kd : k.depth ≤ 8) (hk : DV K H (.ref b) k) (h : DV K H v d) : ∀ {L : List KRow} {kvs : List (PyData × PyData)}, KN K H L kvs → KN K H (L ++ [(nk k, b, v)]) (kvs ++ [(k, d)])
  | _, _, .nil => .cons kb kd hk h .nil
  | _, _, .cons h0 h1 h2 h3 t => .cons h0 h1 h2 h3 (KN.snoc kb kd hk h t)
theorem KN.put {k d : PyData} {b : Addr} {v : V} (kb : keyB k = true) (kd : k.depth ≤ 8) (hk : DV K H (.ref b) k) (h : DV K H v d) {L : List KRow} {kvs : List (PyData × PyData)} (t : KN K H L kvs) : KN K H (lPut L (nk k) b v) (kPut kvs k d) := by
  unfold lPut kPut
  rw [t.has (nk k) k rfl]
  split
  · exact t.repl h
  · exact t.snoc kb kd hk h
theorem rows_has (n : NestedKey) : ∀ {L : List KRow} {xs : List HRow}, Paired RowR L xs → lHas L n = (atKey xs n).isSome
  | _, _, .nil => rfl
  | _, _, .cons r q => by
    have := rows_has n q
    rw [atKey_has] at this ⊢
    unfold lHas at this ⊢
    rw [List.any_cons, List.any_cons, this, r.1]
theorem rows_map {n : NestedKey} {v : V} {u : Value} (h : RelV v u) : ∀ {L : List KRow} {xs : List HRow}, Paired RowR L xs → Paired RowR (L.map fun x => if x.1 = n then (x.1, x.2.1, v) else x) (xs.map (putAt n u))
  | _, _, .nil => .nil
  | _, _, .cons (a := x) (b := y) r q => by
    rw [List.map_cons, List.map_cons]
    refine .cons ?_ (rows_map h q)
    unfold putAt
    rw [← r.1]
    by_cases e : x.1 = n
    · rw [if_pos e, if_pos e]; exact ⟨rfl, r.2.1, h⟩
    · rw [if_neg e, if_neg e]; exact r
theorem rows_put {n : NestedKey} {b : Addr} {v : V} {u : Value} (h : RelV v u) {L : List KRow} {xs : List HRow} (r : Paired RowR L xs) : Paired RowR (lPut L n b v) (storedH xs n b u) := by
  unfold lPut storedH
  rw [rows_has n r]
  split
  · exact rows_map h r
  · exact Paired.snoc r ⟨rfl, rfl, h⟩
theorem lPut_len (L : List KRow) (n : NestedKey) (b : Addr) (v : V) : (lPut L n b v).length ≤ L.length + 1 := by
  unfold lPut
  split
  · rw [List.length_map]; omega
  · rw [List.length_append]; exact Nat.le_refl _
end
section
variable [Tbs] {X : Cx} {pins : List (Addr × Obj)} {σ : L2.St} {F H : Hp} {s : Shared} {a b : Addr} {L : List KRow} {kvs : List (PyData × PyData)} {k d : PyData} {v : V} {u : Value}
theorem key_at (I : Inv X pins σ H s) (h : DV X.KW H (.ref b) k) (kb : keyB k = true) (kd : k.depth ≤ 8) : (nestedKind X.prog X.w).is s.heap (nk k) b := by
  obtain ⟨as, r⟩ := h.reads I (u := .ref b) rfl
  exact nk_is r kb kd
theorem keys_at (I : Inv X pins σ H s) : ∀ {L : List KRow} {kvs : List (PyData × PyData)} {xs : List HRow}, KN X.KW H L kvs → Paired RowR L xs → ∀ x ∈ xs, (nestedKind X.prog X.w).is s.heap x.1 x.2.1
  | _, _, _, .nil, .nil, _, hx => nomatch hx
  | _, _, _, .cons h0 h1 h2 h3 t, .cons (b := y) r q, x, hx => by
    rcases List.mem_cons.mp hx with e | hx
    · rw [e, ← r.1, ← r.2.1]
      exact key_at I h2 h0 h1
    · exact keys_at I t q x hx
theorem kd_at (I : Inv X pins σ H s) (h : Rd H a (KO X.w a L)) (sub : Same F H) (t : KN X.KW F L kvs) : (a == sysModules) = false ∧ L.length ≤ sizeLine ∧ ∃ xs, Paired RowR L xs ∧ s.heap.DictOfH (nestedKind X.prog X.w) a xs := by
  have ok : KObj X.w a L s.heap := (h.ok I.hok).1
  obtain ⟨far, size, xs, r, nd, o, es, ep, ho, hx, hd, he⟩ := ok
  exact ⟨far, size, xs, r, o, es, ep, ho, hx, hd, he, keys_at I (KN.mono sub t) r, nd⟩
theorem kd_new {P : Program} {H : Hp} {h : Heap} {w : World} {xs : List HRow} (far : (a == sysModules) = false) (size : L.length ≤ sizeLine) (r : Paired RowR L xs) (m : h.DictOfH (nestedKind P w) a xs) : ObjOk P w H h a (KO w a L) := by
  obtain ⟨o, es, ep, ho, hx, hd, he, _, nd⟩ := m
  refine ⟨⟨far, size, xs, r, nd, o, es, ep, ho, hx, hd, he⟩, ⟨o, ho⟩, fun h1 h2 p q => ?_⟩
  obtain ⟨far, size, xs, r, nd, o, es, ep, ho, hx, hd, he⟩ := p
  exact ⟨far, size, xs, r, nd, o, es, ep, q o ho, hx, hd, he⟩
variable {A : Around} {E : Value → Shared → Prop}
theorem room_in1 (hu : A.units + 9 < cLine) : (nestedKind X.prog X.w).room A.in1 := by show A.units + 1 + 8 < cLine; omega
theorem kd_get {Q : Value → Shared → Prop} (hu : A.units + 9 < cLine) (I : Inv X pins σ H s) (h : Rd H a (KO X.w a L)) (sub : Same F H) (t : KN X.KW F L kvs) (hk : DV X.KW F (.ref b) k) (ht : keyT k = true) (e : kAt kvs k = some d)
    (q : ∀ w v s', Inv X pins σ H s' → RelV w v → DV X.KW F w d → Q v s') : wpAny (model X.prog X.w) A (getItem (.ref a) (.ref b)) Q E s := by
  obtain ⟨far, size, xs, r, m⟩ := kd_at I h sub t
  obtain ⟨kb, kd, _⟩ := keyT_at ht
  have f := t.find k r
  rw [e] at f
  cases z : atKey xs (nk k) with
  | none => rw [z] at f; exact f.elim
  | some p =>
    rw [z] at f
    obtain ⟨v, dv, rv⟩ := f
    exact wpAny_getItem_heap (room_in1 hu) (key_at I (DV.mono sub hk) kb kd) m z (q v _ _ (I.tok _) rv dv)
theorem kd_in {Q : Value → Shared → Prop} (hu : A.units + 9 < cLine) (I : Inv X pins σ H s) (h : Rd H a (KO X.w a L)) (sub : Same F H) (t : KN X.KW F L kvs) (hk : DV X.KW F (.ref b) k) (ht : keyT k = true)
    (q : ∀ s', Inv X pins σ H s' → Q (.bool (kHas kvs k)) s') : wpAny (model X.prog X.w) A (compareOp .In (.ref b) (.ref a)) Q E s := by
  obtain ⟨far, size, xs, r, m⟩ := kd_at I h sub t
  obtain ⟨kb, kd, _⟩ := keyT_at ht
  refine wpAny_in_heap (room_in1 hu) (key_at I (DV.mono sub hk) kb kd) far m ?_
  rw [← rows_has _ r, t.has (nk k) k rfl]
  exact q _ (I.tok _)
theorem kd_notIn {Q : Value → Shared → Prop} (hu : A.units + 9 < cLine) (I : Inv X pins σ H s) (h : Rd H a (KO X.w a L)) (sub : Same F H) (t : KN X.KW F L kvs) (hk : DV X.KW F (.ref b) k) (ht : keyT k = true)
    (q : ∀ s', Inv X pins σ H s' → Q (.bool (!kHas kvs k)) s') : wpAny (model X.prog X.w) A (compareOp .NotIn (.ref b) (.ref a)) Q E s := by
  obtain ⟨far, size, xs, r, m⟩ := kd_at I h sub t
  obtain ⟨kb, kd, _⟩ := keyT_at ht
  refine wpAny_notIn_heap (room_in1 hu) (key_at I (DV.mono sub hk) kb kd) far m ?_
  rw [← rows_has _ r, t.has (nk k) k rfl]
  exact q _ (I.tok _)
theorem kd_write {h' : Heap} {t' : Nat} {xs : List HRow} (I : Inv X pins σ H s) (h : H a = some (KO X.w a L)) (far : (a == sysModules) = false) (size : L.length < sizeLine) (r : Paired RowR L xs) (rv : RelV v u)
    (m : h'.DictOfH (nestedKind X.prog X.w) a (storedH xs (nk k) b u)) (sb : Heap.SameBut a s.heap h') : Inv X pins σ (upd H a (KO X.w a (lPut L (nk k) b v))) { s with heap := h', toks := t' } := by
  have he : ∃ q, h'.get? a = some q := let ⟨q, _, _, hq, _⟩ := m; ⟨q, hq⟩
  exact d_write I (by rw [h]; exact True.intro) sb he (kd_new far (by have := lPut_len L (nk k) b v; omega) (rows_put rv r) m)
theorem kd_set {Q : Unit → Shared → Prop} (hu : A.units + 9 < cLine) (I : Inv X pins σ H s) (h : H a = some (KO X.w a L)) (sub : Same F H) (t : KN X.KW F L kvs) (hk : DV X.KW F (.ref b) k) (ht : keyT k = true) (hz : kvs.length < sizeLine) (rv : RelV v u)
    (q : ∀ s', Inv X pins σ (upd H a (KO X.w a (lPut L (nk k) b v))) s' → Q () s') : wpAny (model X.prog X.w) A (setItem (.ref a) (.ref b) u) Q E s := by
  obtain ⟨far, size, xs, r, m⟩ := kd_at I (.inl h) sub t
  obtain ⟨kb, kd, _⟩ := keyT_at ht
  exact wpAny_setItem_heap (hsz := by rw [← Paired.length r]; exact size) (room_in1 hu) (key_at I (DV.mono sub hk) kb kd) m fun h' m' sb => q _ (kd_write (k := k) I h far (by rw [t.len]; exact hz) r rv m' sb)
theorem kd_dset {Q : Unit → Shared → Prop} (hu : A.units + 8 < cLine) (I : Inv X pins σ H s) (h : H a = some (KO X.w a L)) (sub : Same F H) (t : KN X.KW F L kvs) (hk : DV X.KW F (.ref b) k) (ht : keyT k = true) (hz : kvs.length < sizeLine) (rv : RelV v u)
    (q : ∀ s', Inv X pins σ (upd H a (KO X.w a (lPut L (nk k) b v))) s' → Q () s') : wpAny (model X.prog X.w) A (dictSet a (.ref b) u) Q E s := by
  obtain ⟨far, size, xs, r, m⟩ := kd_at I (.inl h) sub t
  obtain ⟨kb, kd, _⟩ := keyT_at ht
  exact wpAny_dictSet_heap (hsz := by rw [← Paired.length r]; exact size) (show A.units + 8 < cLine from hu) (key_at I (DV.mono sub hk) kb kd) m fun h' m' sb => q _ (kd_write (k := k) I h far (by rw [t.len]; exact hz) r rv m' sb)
end
end Eg
namespace Eg
open PySem L2 PySem.W PySem.SeqAt PySem.Spec PyProof.Rows
def dctK : Option (Option OD) → Option (List (PyData × PyData))
  | some (some (.kd kvs)) => some kvs
  | some (some (.sn kvs)) => some kvs
  | _ => none
theorem dctK_at [Tbs] {K : Kw} {F H : Hp} {σ : L2.St} {ρ : Rho} {i : Nat} {kvs : List (PyData × PyData)} (s : SR K F H σ ρ) (e : dctK ρ[i]? = some kvs) : ∃ a L, σ[i]? = some (some (.ref a)) ∧ Rd H a (KO K.w a L) ∧ KN K F L kvs := by
  cases q : ρ[i]? with
  | none => rw [q] at e; cases e
  | some o =>
    rw [q] at e
    cases o with
    | none => cases e
    | some o =>
      obtain ⟨v, hv, r⟩ := s.sl i o q
      cases o with
      | kd kvs' => cases e; obtain ⟨a, L, rfl, _, h2, h3⟩ := r; exact ⟨a, L, hv, .inl h2, h3⟩
      | sn kvs' => cases e; obtain ⟨a, L, rfl, ⟨o, h2⟩, h3⟩ := r; exact ⟨a, L, hv, .inr ⟨o, s.sub _ _ h2⟩, h3⟩
      | _ => cases e
theorem dv_tup {K : Kw} {F : Hp} {v : V} {k : PyData} (h : DV K F v k) (t : keyT k = true) : ∃ b, v = .ref b := by
  obtain ⟨_, _, ds, rfl⟩ := keyT_at t
  cases h with
  | tup _ _ => exact ⟨_, rfl⟩
def onK {γ : Type} (i : Nat) (mk : M PyData) (f : List (PyData × PyData) → PyData → Option γ) : M γ := mk.bind fun kd => fun ρ => match dctK ρ[i]? with
  | some kvs => if keyT kd = true then (match f kvs kd with
    | some d => .ok d ρ
    | none => .bad) else .bad
  | none => .bad
def mKGet (i : Nat) (mk : M PyData) : M PyData := onK i mk kAt
def mKIn (i : Nat) (mk : M PyData) : M Bool := onK i mk fun kvs k => some (kHas kvs k)
def mKNot (i : Nat) (mk : M PyData) : M Bool := onK i mk fun kvs k => some (!kHas kvs k)
def rBl : Hp → Hp → L2.St → Rho → Rho → Hp → V → Bool → Prop := fun _ _ _ _ _ _ v b => v = V.bl b
theorem stb_Bl : Stb rBl := fun _ _ _ _ _ _ _ _ _ _ _ _ _ r => r
section
variable [Tbs] {X : Cx} {C : Ct} {e a b c o : Expr} {es : List Expr} {pos apos cpos pos' : Pos} {P : List Nat}
def KSt (C : Ct) {γ : Type} (RR : Hp → Hp → L2.St → Rho → Rho → Hp → V → γ → Prop) (f : List (PyData × PyData) → PyData → Option γ) (i : Nat) (σ : L2.St) (Q : VK) (y : V) (H : Hp) : Prop :=
  ∃ F ρ a b L kvs k d, SR C.K F H σ ρ ∧ σ[i]? = some (some (V.ref a)) ∧ y = .ref b ∧ Rd H a (KO C.K.w a L) ∧ KN C.K F L kvs ∧ DV C.K F (.ref b) k ∧ keyT k = true ∧ f kvs k = some d ∧ PostE C RR σ ρ F H Q (.ok d ρ)
theorem onK_read {γ : Type} {RR : Hp → Hp → L2.St → Rho → Rho → Hp → V → γ → Prop} {f : List (PyData × PyData) → PyData → Option γ} {i : Nat} {mk : M PyData} {σ : L2.St} {ρ : Rho} {F H : Hp} {Q : VK} (st : Stb RR) (sr : SR C.K F H σ ρ) (p : PostE C RR σ ρ F H Q (onK i mk f ρ)) :
    tD C mk σ H fun y H1 => KSt C RR f i σ Q y H1 := by
  refine ⟨F, ρ, sr, p.part fun kd ρ1 F1 H1 y ee q1 g1 s1 r1 => ?_⟩
  have q1 := q1.on st g1
  cases es : dctK ρ1[i]? with
  | none => simp only [es] at q1; exact q1.elim
  | some kvs =>
    simp only [es] at q1
    split at q1
    · rename_i ht
      cases ed : f kvs kd with
      | none => simp only [ed] at q1; exact q1.elim
      | some d =>
        simp only [ed] at q1
        obtain ⟨a, L, ha, hH, hn⟩ := dctK_at s1 es
        obtain ⟨b, rfl⟩ := dv_tup r1 ht
        exact ⟨F1, ρ1, a, b, L, kvs, kd, d, s1, ha, rfl, hH, hn, r1, ht, ed, q1⟩
    · exact q1.elim
theorem d_kget {i : Nat} {mk : M PyData} (hu : X.A.units + 9 < cLine) (ho : PE X o (tVar i)) (hi : PE X e (tD C mk)) (hs : NoSl e) (hK : X.KW = C.K := by rfl) : PE X (.Subscript o e pos) (tD C (mHas i (mKGet i mk))) := by
  refine ⟨fun pins s σ H Q I ⟨F, ρ, sr, p⟩ => ?_⟩
  unfold mHas at p
  split at p
  · rename_i oo eo
    obtain ⟨v, hv, _⟩ := sr.sl i _ eo
    refine subD_of PySem.F.slot_dict_getitem.lookup hs (thn (ho.run pins s σ H (fun x H1 => x = v ∧ H1 = H) I ⟨v, hv, rfl, rfl⟩) fun u s1 ⟨x, H1, I1, rx, e1, e2⟩ => ?_)
    subst e1 e2
    refine thn (hi.run pins s1 σ H1 _ I1 (onK_read stb_D sr p)) fun iv s2 ⟨y, H2, I2, ry, F2, ρ2, a, b, L, kvs, k, d, s2', ha, ey, hH, hn, hk, ht, ed, q2⟩ => ?_
    rw [hv] at ha
    cases ha
    subst ey
    obtain rfl : u = .ref a := rx
    obtain rfl : iv = .ref b := ry
    rw [← hK] at hH hn hk s2'
    obtain ⟨_, _, xs, _, m⟩ := kd_at I2 hH s2'.sub hn
    exact ⟨m.typeIs, kd_get hu I2 hH s2'.sub hn hk ht ed fun w v s3 I3 rw' dv => ⟨w, H2, I3, rw', q2 F2 H2 w Grow.refl (hK ▸ s2') (hK ▸ dv)⟩⟩
  · exact p.elim
def tBl (C : Ct) (m : M Bool) : TE := fun σ H Q => ∃ F ρ, SR C.K F H σ ρ ∧ PostE (β := V) C rBl σ ρ F H Q (m ρ)
theorem pc_kin {i : Nat} {mk : M PyData} (hu : X.A.units + 9 < cLine) (ha : PE X a (tD C mk)) (hb : PE X b (tVar i)) (hK : X.KW = C.K := by rfl) : PC X .In a b (tBl C (mKIn i mk)) := by
  refine ⟨fun pins s σ H Q I ⟨F, ρ, sr, p⟩ => ?_⟩
  refine thn (ha.run pins s σ H _ I (onK_read stb_Bl sr p)) fun iv s2 ⟨y, H2, I2, ry, F2, ρ2, a, b, L, kvs, k, d, s2', hv, ey, hH, hn, hk, ht, ed, q2⟩ => ?_
  refine thn (hb.run pins s2 σ H2 (fun x H1 => x = .ref a ∧ H1 = H2) I2 ⟨_, hv, rfl, rfl⟩) fun u s1 ⟨x, H1, I1, rx, e1, e2⟩ => ?_
  subst e1 e2 ey
  obtain rfl : u = .ref a := rx
  obtain rfl : iv = .ref b := ry
  cases ed
  rw [← hK] at hH hn hk s2'
  exact kd_in hu I1 hH s2'.sub hn hk ht fun s3 I3 => ⟨.bl (kHas kvs k), H1, I3, rfl, q2 F2 H1 (.bl (kHas kvs k)) Grow.refl (hK ▸ s2') rfl⟩
theorem pc_knot {i : Nat} {mk : M PyData} (hu : X.A.units + 9 < cLine) (ha : PE X a (tD C mk)) (hb : PE X b (tVar i)) (hK : X.KW = C.K := by rfl) : PC X .NotIn a b (tBl C (mKNot i mk)) := by
  refine ⟨fun pins s σ H Q I ⟨F, ρ, sr, p⟩ => ?_⟩
  refine thn (ha.run pins s σ H _ I (onK_read stb_Bl sr p)) fun iv s2 ⟨y, H2, I2, ry, F2, ρ2, a, b, L, kvs, k, d, s2', hv, ey, hH, hn, hk, ht, ed, q2⟩ => ?_
  refine thn (hb.run pins s2 σ H2 (fun x H1 => x = .ref a ∧ H1 = H2) I2 ⟨_, hv, rfl, rfl⟩) fun u s1 ⟨x, H1, I1, rx, e1, e2⟩ => ?_
  subst e1 e2 ey
  obtain rfl : u = .ref a := rx
  obtain rfl : iv = .ref b := ry
  cases ed
  rw [← hK] at hH hn hk s2'
  exact kd_notIn hu I1 hH s2'.sub hn hk ht fun s3 I3 => ⟨.bl (!kHas kvs k), H1, I3, rfl, q2 F2 H1 (.bl (!kHas kvs k)) Grow.refl (hK ▸ s2') rfl⟩
theorem bl_t {m : M Bool} {σ : L2.St} {H : Hp} {Q : Bool → Hp → Prop} (h : tT C m σ H Q) : tBl C m σ H fun x H' => ∃ k, x = V.bl k ∧ Q k H' := by
  obtain ⟨F, ρ, sr, p⟩ := h
  refine ⟨F, ρ, sr, ?_⟩
  cases e : m ρ with
  | ok b ρ' => rw [e] at p; exact fun F' H' v g s r => ⟨b, r, p F' H' b g s rfl⟩
  | ex x ρ' => rw [e] at p; exact p
  | bad => rw [e] at p; exact p
theorem t_kin {i : Nat} {mk : M PyData} (hu : X.A.units + 9 < cLine) (ha : PE X a (tD C mk)) (hb : PE X b (tVar i)) (hm : behindInMarks .In b = false := by rfl) (hK : X.KW = C.K := by rfl) : PT X (.Compare a [.In] [b] pos) (tT C (mKIn i mk)) :=
  (pt_cmp (pc_kin hu ha hb hK) hm).imp fun _ _ _ h => bl_t h
theorem t_knot {i : Nat} {mk : M PyData} (hu : X.A.units + 9 < cLine) (ha : PE X a (tD C mk)) (hb : PE X b (tVar i)) (hm : behindInMarks .NotIn b = false := by rfl) (hK : X.KW = C.K := by rfl) : PT X (.Compare a [.NotIn] [b] pos) (tT C (mKNot i mk)) :=
  (pt_cmp (pc_knot hu ha hb hK) hm).imp fun _ _ _ h => bl_t h
def sKPut (i : Nat) (mv mk : M PyData) : M Out := mv.bind fun d => mHas i (mk.bind fun kd => fun ρ => match ρ[i]? with
  | some (some (.kd kvs)) => if keyT kd = true ∧ kvs.length < sizeLine then .ok .nx (ρ.set i (some (.kd (kPut kvs kd d)))) else .bad
  | _ => .bad)
theorem s_kput {i : Nat} {value : Expr} {mv mk : M PyData} (hu : X.A.units + 9 < cLine) (ho : PE X o (tVar i)) (hi : PE X e (tD C mk)) (hv : PE X value (tD C mv)) (hs : swapsWith value (some (.Subscript o e pos')) pos.line X.env = pure false := by rfl) (hK : X.KW = C.K := by rfl) :
    PS X (.Assign [.Subscript o e pos'] value pos) (tS C P (sKPut i mv mk)) := by
  refine ⟨fun pins s σ H D I ⟨F, ρ, sr, p⟩ => ?_⟩
  refine wpAny_Assign_Subscript (thn (hv.run pins s σ H (fun v H1 => ∃ F1 ρ1 d, SR C.K F1 H1 σ ρ1 ∧ DV C.K F1 v d ∧ PostS C P σ ρ1 F1 H1 D (mHas i (mk.bind fun kd => fun ρ => match ρ[i]? with
    | some (some (.kd kvs)) => if keyT kd = true ∧ kvs.length < sizeLine then .ok .nx (ρ.set i (some (.kd (kPut kvs kd d)))) else .bad
    | _ => .bad) ρ1)) I ⟨F, ρ, sr, PostS.part (P := P) p fun d ρ1 F1 H1 v q1 g1 s1 r1 => ⟨F1, ρ1, d, s1, r1, q1⟩⟩) fun r s1 ⟨v, H1, I1, rv, F1, ρ1, d, s1', dv, q1⟩ => ?_) hs
  unfold mHas at q1
  split at q1
  · rename_i oo eo
    obtain ⟨x, hx, _⟩ := s1'.sl i _ eo
    refine thn (ho.run pins s1 σ H1 (fun y H2 => y = x ∧ H2 = H1) I1 ⟨x, hx, rfl, rfl⟩) fun u s2 ⟨y, H2, I2, ry, e1, e2⟩ => ?_
    subst e1 e2
    refine thn (hi.run pins s2 σ H2 (fun z H3 => ∃ F3 ρ3 kvs k, SR C.K F3 H3 σ ρ3 ∧ Same F1 F3 ∧ DV C.K F3 z k ∧ ρ3[i]? = some (some (.kd kvs)) ∧ keyT k = true ∧ kvs.length < sizeLine ∧ PostS C P σ ρ3 F3 H3 D (.ok .nx (ρ3.set i (some (.kd (kPut kvs k d)))))) I2 ⟨F1, ρ1, s1', PostS.part (P := P) q1 fun kd ρ3 F3 H3 z q3 g3 s3 r3 => ?_⟩) fun iv s3 ⟨z, H3, I3, rz, F3, ρ3, kvs, k, s3', sub, dz, eo3, ht, hz, q3⟩ => ?_
    · split at q3
      · rename_i kvs eo3
        split at q3
        · rename_i hz
          exact ⟨F3, ρ3, kvs, kd, s3, g3.ext, r3, eo3, hz.1, hz.2, q3⟩
        · exact q3.elim
      · exact q3.elim
    · obtain ⟨x', hx', a, L, rfl, fa, hH, hn⟩ := s3'.sl i _ eo3
      rw [hx] at hx'
      cases hx'
      obtain ⟨b, rfl⟩ := dv_tup dz ht
      obtain rfl : u = .ref a := ry
      obtain rfl : iv = .ref b := rz
      obtain ⟨kb, kd, _⟩ := keyT_at ht
      have st := SR.write (i := i) (o' := .kd (kPut kvs k d)) (u := KO C.K.w a (lPut L (nk k) b v)) s3' eo3 rfl hx rfl ⟨a, lPut L (nk k) b v, rfl, fa, upd_same, hn.put kb kd dz (DV.mono sub dv)⟩
      have fin := q3 F3 _ σ st.2 st.1 Pres.refl
      have hw : X.w = C.K.w := congrArg Kw.w hK
      rw [← hK] at hn dz s3'
      refine kd_set hu I3 (hw ▸ hH) s3'.sub hn dz ht hz rv fun s4 I4 => ⟨σ, _, I4, ?_⟩
      rw [hw]
      exact fin
  · exact q1.elim
theorem o_knew (hK : X.KW = C.K := by rfl) : PE X (.Dict [] [] pos) (tO C (M.ret (.kd []))) := by
  refine ⟨fun pins s σ H Q I ⟨F, ρ, sr, p⟩ => ?_⟩
  have hn : H s.heap.objs.size = none := I.hok.fresh (Nat.le_refl _)
  have fp := sr.sub.free hn
  have hw : X.w = C.K.w := congrArg Kw.w hK
  refine wpAny_Dict_empty ⟨.ref s.heap.objs.size, upd H s.heap.objs.size (KO X.w s.heap.objs.size []), I.laid (t' := s.toks) (fun _ _ q => Heap.get?_push_of_some _ q) (Nat.le_refl _)
    (kd_new (P := X.prog) (xs := []) (beq_eq_false_iff_ne.mpr (Ne.symm (Nat.ne_of_lt I.big))) (Nat.zero_le _) .nil (Heap.DictOfH.new s.heap)), rfl, ?_⟩
  rw [hw]
  exact p F _ _ (Grow.fresh hn) (sr.fresh hn) ⟨⟨_, [], rfl, fp, upd_same, .nil⟩, fun _ a e => by
    cases e
    refine ⟨fun z => ?_, .inl hn⟩
    obtain ⟨_, u, e2⟩ := own.at sr z
    rw [hn] at e2; cases e2⟩
def mKFrz (i : Nat) : M Arg := fun ρ => match ρ[i]? with
  | some (some (.kd kvs)) => .ok (.slot i) (ρ.set i (some (.sn kvs)))
  | some (some (.sn _)) => .ok (.slot i) ρ
  | _ => .bad
theorem pe_kfrz {i : Nat} (h : PE X e (tVar i)) (hK : X.KW = C.K := by rfl) : PE X e (fun σ H Q => ∃ F ρ kvs, SR C.K F H σ ρ ∧ dctK ρ[i]? = some kvs ∧ ∀ F1 H1 a L, Grow (own σ ρ) (own σ (ρ.set i (some (.sn kvs)))) F H F1 H1 → SR C.K F1 H1 σ (ρ.set i (some (.sn kvs))) → σ[i]? = some (some (.ref a)) → FrzN F1 C.K.w a L → KN C.K F1 L kvs → Q (.ref a) H1) := by
  refine ⟨fun pins s σ H Q I ⟨F, ρ, kvs, sr, ek, p⟩ => ?_⟩
  cases q : ρ[i]? with
  | none => rw [q] at ek; cases ek
  | some o =>
    cases o with
    | none => rw [q] at ek; cases ek
    | some o =>
      rw [q] at ek
      obtain ⟨v, hv, r⟩ := sr.sl i o q
      refine thn (h.run pins s σ H (fun x H1 => x = v ∧ H1 = H) I ⟨v, hv, rfl, rfl⟩) fun u s1 ⟨x, H1, I1, r1, ex, eH⟩ => ?_
      subst ex eH
      cases o with
      | sn kv =>
        cases ek
        obtain ⟨a, L, rfl, h1, h3⟩ := r
        have e0 : ρ.set i (some (.sn kvs)) = ρ := by
          obtain ⟨hi, e⟩ := List.getElem?_eq_some_iff.mp q
          rw [← e, List.set_getElem_self]
        refine ⟨_, _, I1, r1, p F _ a L ?_ ?_ hv h1 h3⟩
        · rw [e0]; exact Grow.refl
        · rw [e0]; exact sr
      | kd kv =>
        cases ek
        obtain ⟨a, L, rfl, h1, h2, h3⟩ := r
        obtain ⟨od, I2⟩ := I1.lock h2 True.intro
        have nt : noT (.frz od (KO C.K.w a L)) := fun _ z => by cases z
        refine ⟨_, _, I2, r1, p (upd F a (.frz od (KO C.K.w a L))) _ a L ?_ ?_ hv ⟨od, upd_same⟩ (KN.mono (fun b u h => by rw [upd_ne (ne_of_none h h1)]; exact h) h3)⟩
        · have ow : own σ ρ a := ⟨i, _, q, rfl, hv⟩
          refine ⟨fun b u h => by rw [upd_ne (ne_of_none h h1)]; exact h, fun b u hb _ nb => ?_, fun b ps hb nb => ⟨ps, ?_⟩, fun b hb => ?_, fun b hb => ?_⟩
          · rw [upd_ne (fun z => nb (by rw [z]; exact ow))]; exact hb
          · rw [upd_ne (fun z => nb (by rw [z]; exact ow))]; exact hb
          · by_cases z : b = a
            · rw [z]; exact .inr (.inr ow)
            · rw [upd_ne z] at hb; exact .inl hb
          · rcases hb.put with z | ⟨z, _⟩
            · exact .inl (own.wipe z).1
            · cases z
        · have n0 := sr.wipe i
          have nw := own.wipeNe sr q rfl hv
          have n1 : SR C.K F (upd H1 a (.frz od (KO C.K.w a L))) σ (ρ.set i none) := n0.on (Same.refl _) (fun b u h => by rw [upd_ne (ne_of_none h h1)]; exact n0.sub b u h) (n0.tb.wr h2 (KO_noT _ _ _)) fun b hb => ⟨(own.at n0 hb).1, fun u hu _ => by rw [upd_ne (fun z => nw (by rw [← z]; exact hb))]; exact hu⟩
          have n2 := SR.fix n1 nw upd_same h1 nt
          have n3 := SR.put (i := i) (o := .sn kvs) n2 hv ⟨a, L, rfl, ⟨od, upd_same⟩, KN.mono (fun b u h => by rw [upd_ne (ne_of_none h h1)]; exact h) h3⟩ (fun z => by cases z)
          rw [List.set_set] at n3
          exact n3
      | _ => cases ek
theorem a_kfrz {i : Nat} (h : PE X e (tVar i)) (hK : X.KW = C.K := by rfl) : PE X e (tA C (mKFrz i)) := by
  refine (pe_kfrz (C := C) h hK).imp fun σ H Q ⟨F, ρ, sr, p⟩ => ?_
  unfold mKFrz at p
  cases q : ρ[i]? with
  | none => rw [q] at p; exact p.elim
  | some o =>
    rw [q] at p
    cases o with
    | none => exact p.elim
    | some o =>
      cases o with
      | sn kvs =>
        have e0 : ρ.set i (some (.sn kvs)) = ρ := by
          obtain ⟨hi, e⟩ := List.getElem?_eq_some_iff.mp q
          rw [← e, List.set_getElem_self]
        refine ⟨F, ρ, kvs, sr, by rw [q]; rfl, fun F1 H1 a es g s hv _ _ => ?_⟩
        rw [e0] at g s
        exact p F1 H1 _ g s hv
      | kd kvs => exact ⟨F, ρ, kvs, sr, by rw [q]; rfl, fun F1 H1 a es g s hv _ _ => p F1 H1 _ g s hv⟩
      | _ => exact p.elim
end
end Eg
namespace Eg
open PySem L2 PySem.W PySem.SeqAt PySem.Spec PyProof.Rows
def kcGo (t : Tgt) (mt : M Bool) (mk mv : M PyData) (vs : List Nat) : List PyData → List (PyData × PyData) → M (List (PyData × PyData))
  | [], acc => M.ret acc
  | x :: xs, acc => fun ρ => match t x (wipeR ρ vs) with
    | none => .bad
    | some ρ1 => match mt ρ1 with
      | .ok false ρ2 => kcGo t mt mk mv vs xs acc ρ2
      | .ok true ρ2 => (match mk ρ2 with
        | .ok k ρ3 => (match mv ρ3 with
          | .ok d ρ4 => if keyT k = true ∧ acc.length < sizeLine then kcGo t mt mk mv vs xs (kPut acc k d) ρ4 else .bad
          | _ => .bad)
        | _ => .bad)
      | _ => .bad
def mKComp (src : M (List PyData)) (t : Tgt) (mt : M Bool) (mk mv : M PyData) (vs : List Nat) : M OD := src.bind fun xs => fun ρ => match kcGo t mt mk mv vs xs [] ρ with
  | .ok acc ρ' => if ρ'.length = ρ.length then .ok (.kd acc) (restR ρ ρ' vs) else .bad
  | _ => .bad
structure KMid [Tbs] (C : Ct) (σ0 : L2.St) (ρ1 : Rho) (vs : List Nat) (F1 H1 : Hp) (D : Addr) (σ : L2.St) (ρ : Rho) (F H : Hp) (acc : List (PyData × PyData)) : Prop where
  sr : SR C.K F H σ ρ
  gr : Grow (own σ0 (wipeR ρ1 vs)) (own σ ρ) F1 H1 F H
  no : ¬ own σ ρ D
  ft : F D = none
  rows : ∃ L, H D = some (KO C.K.w D L) ∧ KN C.K F L acc
section
variable [Tbs] {C : Ct} {σ0 σ : L2.St} {ρ1 ρ ρ' : Rho} {vs : List Nat} {F1 H1 F H F' H' : Hp} {D : Addr} {acc : List (PyData × PyData)}
theorem KMid.on (m : KMid C σ0 ρ1 vs F1 H1 D σ ρ F H acc) (g : Grow (own σ ρ) (own σ ρ') F H F' H') (s : SR C.K F' H' σ ρ') : KMid C σ0 ρ1 vs F1 H1 D σ ρ' F' H' acc := by
  obtain ⟨L, h, t⟩ := m.rows
  refine ⟨s, m.gr.trans g, fun z => ?_, ?_, L, g.keep D _ h (KO_noT _ _ _) m.no, t.mono g.ext⟩
  · rcases g.ows D z with y | y
    · exact m.no y
    · rw [h] at y; cases y
  · cases q : F' D with
    | none => rfl
    | some u =>
      rcases g.new D (by rw [q]; simp) with z | z | z
      · exact absurd m.ft z
      · rw [h] at z; cases z
      · exact absurd z m.no
theorem KMid.put (m : KMid C σ0 ρ1 vs F1 H1 D σ ρ F H acc) (hD : H1 D = none) {k d : PyData} {b : Addr} {v : V} (kt : keyT k = true) (dk : DV C.K F (.ref b) k) (dv : DV C.K F v d) {L : List KRow} (hL : H D = some (KO C.K.w D L)) (t : KN C.K F L acc) :
    KMid C σ0 ρ1 vs F1 H1 D σ ρ F (upd H D (KO C.K.w D (lPut L (nk k) b v))) (kPut acc k d) := by
  obtain ⟨kb, kd, _⟩ := keyT_at kt
  refine ⟨m.sr.on (Same.refl _) (fun c u q => by rw [upd_ne (ne_of_none q m.ft)]; exact m.sr.sub c u q) (m.sr.tb.wr hL (KO_noT _ _ _)) fun a ha => ?_, ⟨m.gr.ext, fun c o q t n => ?_, fun c ps q n => ?_, m.gr.new, m.gr.ows⟩, m.no, m.ft, _, upd_same, t.put kb kd dk dv⟩
  · exact ⟨(own.at m.sr ha).1, fun u q _ => by rw [upd_ne (fun z => m.no (by rw [← z]; exact ha))]; exact q⟩
  · rw [upd_ne (ne_of_none q hD)]
    exact m.gr.keep c o q t n
  · rw [upd_ne (ne_of_none q hD)]
    exact m.gr.kt c ps q n
end
section
variable [Tbs] {X : Cx} {C : Ct} {kx vx tg iter : Expr} {ifs : List Expr} {pos : Pos}
def KNext (C : Ct) (σ0 : L2.St) (ρ1 : Rho) (vs : List Nat) (F1 H1 : Hp) (D : Addr) (t : Tgt) (mt : M Bool) (mk mv : M PyData) (all : List PyData) (accF : List (PyData × PyData)) (ρF : Rho) (i : Nat) (H : Hp) : Prop :=
  i ≤ all.length ∧ ∃ F ρ acc, KMid C σ0 ρ1 vs F1 H1 D σ0 (wipeR ρ vs) F H acc ∧ kcGo t mt mk mv vs (all.drop i) acc ρ = .ok accF ρF
theorem kdc_core {pins : List (Addr × Obj)} {s : Shared} {σ : L2.St} {H : Hp} {Q : VK} {use : Option (Value → Sem Unit)} {Qf : Value → Shared → Prop} {pos2 : Pos} {scope : Scope} {names : List (Str × Nat)} {g : TG} {t : Tgt} {src : M (List PyData)} {mt : M Bool} {mk mv : M PyData} {n : Nat} (hu : X.A.units + 9 < cLine) (calm : X.calm = true) (nd : X.N.Nodup) (walk : PI X tg iter (tI C src)) (ok : BlkOk X.N X.env.scope scope names)
    (hg : ∀ (s : Shared) (H : Hp) (D : Addr) (cl : List (Str × Addr)) (fp : List Addr), PG (X.blk s H scope (compEnvC scope cl D X.env) fp) tg g) (htg : TgOk C.quiet (outs n (names.map (·.2))) n g t)
    (ht : ∀ (s : Shared) (H : Hp) (D : Addr) (cl : List (Str × Addr)) (fp : List Addr), PTs (X.blk s H scope (compEnvC scope cl D X.env) fp) ifs (tT C.quiet mt))
    (hk : ∀ (s : Shared) (H : Hp) (D : Addr) (cl : List (Str × Addr)) (fp : List Addr), PE (X.blk s H scope (compEnvC scope cl D X.env) fp) kx (tD C.quiet mk))
    (hv : ∀ (s : Shared) (H : Hp) (D : Addr) (cl : List (Str × Addr)) (fp : List Addr), PE (X.blk s H scope (compEnvC scope cl D X.env) fp) vx (tD C.quiet mv)) (hL : X.N.length = n := by rfl) (hs : ∀ x, foldedSetIterable iter X.env x = pure x := by intro _; rfl) (hK : X.KW = C.K := by rfl) (J : Inv X pins σ H s) (h : tO C (mKComp src t mt mk mv (names.map (·.2))) σ H Q)
    (hRR : ∀ D Cc u m H1, Inv X pins σ H1 u → Q (.ref D) H1 → u.heap.Ns Cc m → FpOk X pins H1 Cc → compPost (model X.prog X.w) X.A X.xe use Qf (.ref D) Cc (.ok .next) u) :
    wpAny (model X.prog X.w) X.A (comprehension (.DictComp kx vx [⟨tg, iter, ifs, 0⟩] scope pos) scope X.env pos2 newDict false (eval iter X.env) use) Qf X.xe s := by
  generalize hvs : names.map (·.2) = vs at htg h
  obtain ⟨F, ρ, sr, p⟩ := h
  have ln : σ.length = n := by rw [J.len, hL]
  have hw : X.w = C.K.w := congrArg Kw.w hK
  -- the whole run, told ahead
  have start : tI C src σ H fun It H1 => ∃ xs ρ1 F1 accF ρF, SR C.K F1 H1 σ ρ1 ∧ WalkD C.K F1 It xs ∧ kcGo t mt mk mv vs xs [] ρ1 = .ok accF ρF ∧ ρF.length = ρ1.length ∧ PostE C (rO C.K) σ ρ1 F1 H1 Q (.ok (.kd accF) (restR ρ1 ρF vs)) := by
    refine ⟨F, ρ, sr, p.part fun xs ρ1 F1 H1 It e1 q1 g1 s1 wk => ?_⟩
    have q1 := q1.on stb_O g1
    cases e : kcGo t mt mk mv vs xs [] ρ1 with
    | ok accF ρF =>
      simp only [e] at q1
      split at q1
      · rename_i hz
        exact ⟨xs, ρ1, F1, accF, ρF, s1, wk, e, hz, q1⟩
      · exact q1.elim
    | _ => simp only [e] at q1; exact q1.elim
  have cells : ∀ y ∈ scope.names, y.2 = .free → ∃ c, X.env.cells.lookup y.1 = some c := fun y hy e => (ok.free y hy e).elim (fun z => J.ok.has _ (.inl z)) fun z => J.ok.has _ (.inr z)
  refine wpAny_comprehension_free (use := use) rfl hs (closure_ok cells) ok.kind (fun y hy e => by rw [ok.uniq y hy, e]) (thn (walk.run pins s σ H _ J start) fun xv sa ha => thn ha fun iv sb got => ?_)
  obtain ⟨it, fp, tn, It, Hb, rfl, Jb, T, st0, fpOk, xs, ρ1, F1, accF, ρF, sr1, wk, run, lenF, post⟩ := got
  refine wpAny_newObj_type (newEnv_comp ?_)
  generalize eD : sb.heap.objs.size = D
  have HbD : Hb D = none := Jb.hok.fresh (Nat.le_of_eq eD)
  have FD : F1 D = none := sr1.sub.free HbD
  -- the empty dict is laid
  generalize esc : ({ sb with heap := sb.heap.push { cls := .type "dict", data := .dict #[] } } : Shared) = sc
  generalize eHc : upd Hb D (KO X.w D []) = Hc
  have Jc : Inv X pins σ Hc sc := by
    rw [← esc, ← eHc]
    refine Jb.laid (t' := sb.toks) (fun b o e => Heap.get?_push_of_some _ e) (Nat.le_of_eq eD) ?_
    rw [← eD]
    exact kd_new (P := X.prog) (xs := []) (beq_eq_false_iff_ne.mpr (Ne.symm (Nat.ne_of_lt Jb.big))) (Nat.zero_le _) .nil (Heap.DictOfH.new sb.heap)
  have esh : sc.heap = sb.heap.push { cls := .type "dict", data := .dict #[] } := by rw [← esc]
  have under : ∀ b ∈ fp, b < sb.heap.objs.size := fun b hb => let ⟨o, e, _⟩ := T.obj _ _ st0 b hb; Heap.lt_size e
  have fpc : ∀ b ∈ fp, FpOk X pins Hc b ∧ b < sc.heap.objs.size := fun b hb => by
    have lo := under b hb
    refine ⟨⟨?_, (fpOk b hb).2⟩, by rw [esh, Heap.size_push]; exact Nat.lt_succ_of_lt lo⟩
    rw [← eHc, upd_ne (by rw [← eD]; exact Nat.ne_of_lt lo)]
    exact (fpOk b hb).1
  have stc : tn 0 sc.heap := T.keep _ _ _ st0 fun b _ o e => by rw [esh]; exact Heap.get?_push_of_some _ e
  have Jd := block_start Jc ok nd fpc
  generalize ecl : cellsFrom (sc.heap.objs.size + 1) scope.names (cloFrom X.env.cells scope.names []) = cl at Jd ⊢
  have pg := hg sc Hc sc.heap.objs.size cl fp
  have pt := ht sc Hc sc.heap.objs.size cl fp
  have pk := hk sc Hc sc.heap.objs.size cl fp
  have pv := hv sc Hc sc.heap.objs.size cl fp
  have bkw : (X.blk sc Hc scope (compEnvC scope cl sc.heap.objs.size X.env) fp).KW = C.K := by rw [← hK]; unfold Cx.KW; rw [show (X.blk sc Hc scope (compEnvC scope cl sc.heap.objs.size X.env) fp).calm = X.calm from rfl, calm]; rfl
  rw [hvs] at Jd
  show codeAny _ _ (.compStart (.DictComp kx vx [⟨tg, iter, ifs, 0⟩] scope pos) 0 (.ref it) (.ref D) (compEnvC scope cl sc.heap.objs.size X.env)) (compPost _ X.A X.xe _ _ (.ref D) sc.heap.objs.size) { sc with heap := pushCells (sc.heap.push { cls := .type "dict", data := .dict #[] }) scope.names }
  generalize ece : compEnvC scope cl sc.heap.objs.size X.env = ce at Jd pg pt pk pv bkw ⊢
  have ceL : ce.locals = sc.heap.objs.size := by rw [← ece]; rfl
  generalize esd : ({ sc with heap := pushCells (sc.heap.push { cls := .type "dict", data := .dict #[] }) scope.names } : Shared) = sd at Jd ⊢
  have std : tn 0 sd.heap := T.keep _ _ _ stc fun b _ o e => by rw [← esd]; exact pushCells_keeps _ _ _ _ (Heap.get?_push_of_some _ e)
  have idle : ∀ {σ' : L2.St} {H' : Hp} {s' : Shared}, Inv (X.blk sc Hc scope ce fp) [] σ' H' s' → (∀ b ∈ fp, H' b = none) → ∀ b ∈ fp, FpOk (X.blk sc Hc scope ce fp) [] H' b := fun {σ' H' s'} I' nn b hb =>
    ⟨nn b hb, (I'.ok.exf b hb).1, I'.ok.exfs b hb, .inl hb, fun x c e => (I'.ok.exf b hb).2 x c e, fun q hq => by cases hq⟩
  have mid0 : KMid C (wipe σ vs) ρ1 vs F1 Hb D (wipe σ vs) (wipeR ρ1 vs) F1 Hc [] := by
    have no : ¬ own (wipe σ vs) (wipeR ρ1 vs) D := fun z => by
      obtain ⟨_, u, hu⟩ := own.at (sr1.wipes vs) z
      rw [HbD] at hu; cases hu
    rw [← eHc, hw]
    exact ⟨(sr1.fresh HbD).wipes vs, Grow.fresh HbD, no, FD, [], upd_same, .nil⟩
  have loop : codeAny (model X.prog X.w) X.A (.compLoop (.DictComp kx vx [⟨tg, iter, ifs, 0⟩] scope pos) 0 (.ref it) (.ref D) ce) (compPost (model X.prog X.w) X.A X.xe use Qf (.ref D) sc.heap.objs.size) sd := by
    refine compLoop_anyD (fun m s' => ∃ i H', m = xs.length - i ∧ Inv (X.blk sc Hc scope ce fp) [] (wipe σ vs) H' s' ∧ tn i s'.heap ∧ (∀ b ∈ fp, H' b = none) ∧ KNext C (wipe σ vs) ρ1 vs F1 Hb D t mt mk mv xs accF ρF i H') ?_ xs.length
      ⟨0, Hc, rfl, Jd, std, fun b hb => (fpc b hb).1.1, Nat.zero_le _, F1, ρ1, [], mid0, by rw [List.drop_zero]; exact run⟩
    rintro m se ⟨i, He, rfl, Je, ste, ne, ile, Fe, ρe, acc, mid, rest⟩
    obtain ⟨w1, w2⟩ := wk Fe He i mid.gr.ext mid.sr.sub
    by_cases hlt : i < xs.length
    · obtain ⟨x, ex⟩ : ∃ x, xs[i] = x := ⟨_, rfl⟩
      obtain ⟨go, yl⟩ := w2 x (by rw [← ex]; simp [hlt])
      rw [List.drop_eq_getElem_cons hlt, ex] at rest
      simp only [kcGo] at rest
      refine thnF (T.item (X.blk sc Hc scope ce fp) rfl rfl rfl calm i [] se _ He (fun _ _ => False) Je (idle Je ne) ste go) fun r s6 ⟨u, hr, h6⟩ => ?_
      subst hr
      refine thnF h6 fun _ s7 ⟨v, H7, J7, r7, y7, st7, n7⟩ => ?_
      have J7' := J7.pinned (idle J7 n7) (T.obj _ _ st7)
      obtain ⟨F7, al⟩ := yl v H7 y7
      -- the thing that came
      have came : ∃ sx : SR C.K F7 H7 (wipe σ vs) (wipeR ρe vs), Grow (own (wipe σ vs) (wipeR ρe vs)) (own (wipe σ vs) (wipeR ρe vs)) Fe He F7 H7 ∧ DV C.K F7 v x := by
        cases al with
        | asis h => exact ⟨mid.sr, Grow.refl, h⟩
        | tup hp h => exact ⟨mid.sr.laid hp, Grow.laid hp (mid.sr.sub.free hp), .tup (.inl (.inl upd_same)) (h.upd (mid.sr.sub.free hp))⟩
      obtain ⟨s7', g7, dx⟩ := came
      have mid7 := mid.on g7 s7'
      cases et : t x (wipeR ρe vs) with
      | none => simp only [et] at rest; cases rest
      | some ρ8 =>
        simp only [et] at rest
        refine thnF (pg.run _ s7 _ H7 v u (fun σ8 H8 => wipe σ8 vs = wipe σ vs ∧ KMid C (wipe σ vs) ρ1 vs F1 Hb D σ8 ρ8 F7 H8 acc) J7' r7 (htg v x (wipe σ vs) (wipeR ρe vs) ρ8 F7 H7 _ (by rw [wipe_length]; exact ln) s7' dx et fun σ8 sr8 o8 p8 => ?_)) fun _ s8 ⟨σ8, H8, J8, ew, mid8⟩ => ?_
        · have ew : wipe σ8 vs = wipe σ vs := by
            rw [← wipe_wipe σ vs]
            exact wipe_ext p8.1 fun j hj q => p8.2 j (mem_outs (by rw [wipe_length, ln] at hj; exact hj) q)
          obtain ⟨L, h, tt⟩ := mid7.rows
          exact ⟨ew, sr8, mid7.gr.less o8, fun z => mid7.no (o8 D z), mid7.ft, L, h, tt⟩
        · -- the turn's end
          have fin : ∀ {s' : Shared} {H' F' : Hp} {ρ' : Rho} {acc' : List (PyData × PyData)}, Inv (X.blk sc Hc scope ce fp) ([] ++ pinsAt fp s7.heap) σ8 H' s' → KMid C (wipe σ vs) ρ1 vs F1 Hb D σ8 ρ' F' H' acc' → kcGo t mt mk mv vs (xs.drop (i + 1)) acc' ρ' = .ok accF ρF →
              ∃ m, m < xs.length - i ∧ ∃ j H', m = xs.length - j ∧ Inv (X.blk sc Hc scope ce fp) [] (wipe σ vs) H' s' ∧ tn j s'.heap ∧ (∀ b ∈ fp, H' b = none) ∧ KNext C (wipe σ vs) ρ1 vs F1 Hb D t mt mk mv xs accF ρF j H' := fun {s' H' F' ρ' acc'} I' mid' rest' => by
            have pin' : ∀ b ∈ fp, ∀ o, s7.heap.get? b = some o → s'.heap.get? b = some o ∧ H' b = none := fun b hb o e =>
              let z := I'.pin (b, o) (List.mem_append_right _ (List.mem_append_right _ (mem_pinsAt hb e)))
              ⟨z.1, z.2.1⟩
            have less : ∀ {b : Addr}, own (wipe σ vs) (wipeR ρ' vs) b → own σ8 ρ' b := fun {b} z => by
              rw [← ew] at z
              exact (own.wipes z).1
            have back : SR C.K F' H' (wipe σ vs) (wipeR ρ' vs) := by
              have z := mid'.sr.wipes vs
              rw [ew] at z
              exact z
            refine ⟨xs.length - (i + 1), by omega, i + 1, H', rfl, (I'.unpinned (pins := [])).weak (by rw [← ew, wipe_length]) (fun j v e => ?_), T.keep _ _ _ st7 fun b hb o e => (pin' b hb o e).1, fun b hb => ?_, by omega, F', ρ', acc', ⟨back, mid'.gr.less fun b => less, fun z => mid'.no (less z), mid'.ft, mid'.rows⟩, rest'⟩
            · rw [← ew] at e
              exact (wipe_some e).1
            · obtain ⟨o, e, _⟩ := T.obj _ _ st7 b hb
              exact (pin' b hb o e).2
          cases emt : mt ρ8 with
          | bad => simp only [emt] at rest; cases rest
          | ex y r => simp only [emt] at rest; cases rest
          | ok yes ρ9 =>
            simp only [emt] at rest
            refine thnF (pt.run _ s8 σ8 H8 (fun b H9 => b = yes ∧ ∃ F9, KMid C (wipe σ vs) ρ1 vs F1 Hb D σ8 ρ9 F9 H9 acc) J8 ⟨F7, ρ8, mid8.sr, by rw [emt]; exact fun F9 H9 b g9 s9 eb => ⟨eb, F9, mid8.on g9 s9⟩⟩) fun b s9 ⟨H9, J9, eb, F9, mid9⟩ => ?_
            subst eb
            cases b with
            | false =>
              simp only [Bool.false_eq_true, if_false] at rest ⊢
              exact fin J9 mid9 rest
            | true =>
              simp only [if_true] at rest ⊢
              cases emk : mk ρ9 with
              | bad => simp only [emk] at rest; cases rest
              | ex y r => simp only [emk] at rest; cases rest
              | ok k ρ10 =>
                simp only [emk] at rest
                refine thnF (pk.run _ s9 σ8 H9 (fun y H10 => ∃ F10, KMid C (wipe σ vs) ρ1 vs F1 Hb D σ8 ρ10 F10 H10 acc ∧ DV C.K F10 y k) J9 ⟨F9, ρ9, mid9.sr, by rw [emk]; exact fun F10 H10 y g10 s10 dk => ⟨F10, mid9.on g10 s10, dk⟩⟩) fun z s10 ⟨y, H10, J10, rz, F10, mid10, dk⟩ => ?_
                cases emv : mv ρ10 with
                | bad => simp only [emv] at rest; cases rest
                | ex y r => simp only [emv] at rest; cases rest
                | ok d ρ11 =>
                  simp only [emv] at rest
                  split at rest
                  · rename_i cond
                    refine thnF (pv.run _ s10 σ8 H10 (fun y2 H11 => ∃ F11, KMid C (wipe σ vs) ρ1 vs F1 Hb D σ8 ρ11 F11 H11 acc ∧ DV C.K F11 y k ∧ DV C.K F11 y2 d) J10 ⟨F10, ρ10, mid10.sr, by rw [emv]; exact fun F11 H11 y2 g11 s11 dv => ⟨F11, mid10.on g11 s11, dk.mono g11.ext, dv⟩⟩) fun z2 s11 ⟨y2, H11, J11, rz2, F11, mid11, dk, dv⟩ => ?_
                    obtain ⟨b, rfl⟩ := dv_tup dk cond.1
                    obtain rfl : z = .ref b := rz
                    obtain ⟨L, hH, tt⟩ := mid11.rows
                    have put := mid11.put HbD cond.1 dk dv hH tt
                    have sub := mid11.sr.sub
                    rw [← hw] at hH put
                    rw [← bkw] at tt dk
                    exact kd_dset (X := X.blk sc Hc scope ce fp) (by show X.A.units + 8 < cLine; omega) J11 hH sub tt dk cond.1 cond.2 rz2 fun s12 J12 => fin J12 put rest
                  · cases rest
    · have ei : i = xs.length := by omega
      subst ei
      rw [List.drop_length] at rest
      simp only [kcGo, M.ret] at rest
      cases rest
      refine thnF (T.done (X.blk sc Hc scope ce fp) rfl rfl rfl calm _ [] se _ He (fun _ _ => False) Je (idle Je ne) ste (w1 (Nat.le_refl _))) fun r s6 ⟨hr, J6⟩ => ?_
      subst hr
      -- back in the def
      have J7 : Inv X pins σ He s6 := Jc.call' (ch := fp) J6.os J6.base J6.hok J6.bare fun b hb => ⟨(fpc b hb).1.2.2.2.1, (fpc b hb).1.2.1, (fpc b hb).1.2.2.2.2.1, (fpc b hb).1.2.2.2.2.2⟩
      have nC : He sc.heap.objs.size = none := by
        have z : He ce.locals = none := J6.free
        rw [ceL] at z
        exact z
      obtain ⟨m, hn, _⟩ := J6.loc
      have hn : s6.heap.Ns ce.locals m := hn
      rw [ceL] at hn
      refine hRR D sc.heap.objs.size s6 m He J7 ?_ hn (Jc.fpOk (Nat.le_refl _) nC)
      obtain ⟨sf, gf⟩ := sr1.rest mid.sr lenF mid.gr
      obtain ⟨L, hH, tt⟩ := mid.rows
      refine post Fe He (.ref D) gf sf ⟨⟨D, L, rfl, mid.ft, hH, tt⟩, fun _ a ea => ?_⟩
      cases ea
      refine ⟨fun z => ?_, .inl HbD⟩
      rcases gf.ows D z with y | y
      · obtain ⟨_, u, hu⟩ := own.at sr1 y
        rw [HbD] at hu; cases hu
      · obtain ⟨j, o, e1, e2, e3⟩ := z
        by_cases q : j ∈ vs
        · obtain ⟨_, u, hu⟩ := own.at sr1 ⟨j, o, restR_in q e1, e2, e3⟩
          rw [HbD] at hu; cases hu
        · rw [restR_out q] at e1
          exact mid.no ⟨j, o, by rw [wipeR_out q]; exact e1, e2, by rw [wipe_out q]; exact e3⟩
  exact codeAny_compStart_dict loop (T.self X.A 0 _ _ _ std loop)
theorem s_setDC {P : List Nat} {i : Nat} {y : Str} {py spos : Pos} {scope : Scope} {names : List (Str × Nat)} {g : TG} {t : Tgt} {src : M (List PyData)} {mt : M Bool} {mk mv : M PyData} {n : Nat} (hu : X.A.units + 9 < cLine) (calm : X.calm = true) (nd : X.N.Nodup) (walk : PI X tg iter (tI C src)) (ok : BlkOk X.N X.env.scope scope names)
    (hg : ∀ (s : Shared) (H : Hp) (D : Addr) (cl : List (Str × Addr)) (fp : List Addr), PG (X.blk s H scope (compEnvC scope cl D X.env) fp) tg g) (htg : TgOk C.quiet (outs n (names.map (·.2))) n g t)
    (ht : ∀ (s : Shared) (H : Hp) (D : Addr) (cl : List (Str × Addr)) (fp : List Addr), PTs (X.blk s H scope (compEnvC scope cl D X.env) fp) ifs (tT C.quiet mt))
    (hk : ∀ (s : Shared) (H : Hp) (D : Addr) (cl : List (Str × Addr)) (fp : List Addr), PE (X.blk s H scope (compEnvC scope cl D X.env) fp) kx (tD C.quiet mk))
    (hv : ∀ (s : Shared) (H : Hp) (D : Addr) (cl : List (Str × Addr)) (fp : List Addr), PE (X.blk s H scope (compEnvC scope cl D X.env) fp) vx (tD C.quiet mv)) (hL : X.N.length = n := by rfl) (hs : ∀ x, foldedSetIterable iter X.env x = pure x := by intro _; rfl) (hK : X.KW = C.K := by rfl) (hy : X.N[i]? = some y) (hyl : X.env.scope.names.lookup y = some .local)
    (hsw : swapsWith (.DictComp kx vx [⟨tg, iter, ifs, 0⟩] scope pos) (some (.Name y py)) spos.line X.env = pure true) (hP : i ∉ P := by decide) :
    PS X (.Assign [.Name y py] (.DictComp kx vx [⟨tg, iter, ifs, 0⟩] scope pos) spos) (tS C P (sSet i (mKComp src t mt mk mv (names.map (·.2))))) := by
  refine ⟨fun pins s σ H E J ⟨F, ρ, sr, p⟩ => ?_⟩
  have h := PostS.set p (by rw [J.len]; exact (List.getElem?_eq_some_iff.mp hy).1) hP
  rw [exec_Assign_Name_used _ _ _ _ hsw]
  refine wpAny_bind (wpAny_standAt (wpAny_bind ?_))
  show wpAny _ X.A (comprehension (.DictComp kx vx [⟨tg, iter, ifs, 0⟩] scope pos) scope X.env (firstIterPos [⟨tg, iter, ifs, 0⟩] pos) newDict false (eval iter X.env) (some (assign (.Name y py) X.env)) >>= fun _ => pure ()) _ _ s
  refine wpAny_bind (thn (kdc_core (Qf := fun _ u => SP X pins E .next u) hu calm nd walk ok hg htg ht hk hv hL hs hK J ⟨F, ρ, sr, h⟩ fun D Cc u m H1 I' q hn f => ?_) fun _ u hq => wpAny_pure (wpAny_pure hq))
  show wpAny _ _ (assign (.Name y py) X.env (.ref D)) _ _ _
  refine wpAny_assign_Name (store_ok2 (v := V.ref D) I' nd hy (.inl hyl) rfl (fun u2 I2 ⟨a, sb, ha⟩ => ?_) (.inr hyl))
  obtain ⟨f0, f1, f2, f3, f4, f5⟩ := f
  have apart : Cc ≠ a := by
    rcases ha with z | z
    · rw [z]; exact f1
    · exact fun e => f4 y a z e.symm
  exact ⟨m, hn.sameBut sb apart, fun h3 sb3 => ⟨_, H1, I2.turned (t' := u2.toks) (fun b o hb e => (sb3.2 b hb).trans e) f0 f1 f3 f4 f5, q⟩⟩
theorem sw_trueD {gs : List Comprehension} {scope : Scope} {pos py : Pos} {y : Str} {l : Nat} {env : Env} (fn : env.scope.kind = .function) (own : env.scope.names.lookup y = some .local) (row : (py.line == pos.line) = true)
    (apart : (scope.names.any fun (n, k) => n == y && (k == .local || k == .cell)) = false) : swapsWith (.DictComp kx vx gs scope pos) (some (.Name y py)) l env = pure true := by
  have k1 : env.kindOf y = some .local := own
  have k2 : env.blockKind = .function := by
    unfold Env.blockKind
    rw [fn]
    rfl
  unfold swapsWith
  simp only [k2, k1, apart, Expr.pos, row]
  rfl
end
end Eg
namespace Eg
open PySem L2 PySem.W PySem.SeqAt PySem.Spec PyProof.Rows
def Kept (s s1 : Shared) : Prop := (∀ b o, s.heap.get? b = some o → s1.heap.get? b = some o) ∧ s1.gens = s.gens ∧ s1.os = s.os ∧ s.heap.objs.size ≤ s1.heap.objs.size
section
variable {P : Program} {w : World} {A : Around} {s : Shared}
theorem sorted_by {E : Value → Shared → Prop} {r : Addr} {G : List Value → Shared → Prop} {Q : Value → Shared → Prop}
    (gather : ∀ (E : Value → Shared → Prop) (R : List Value → Shared → Prop), (∀ vs s1, G vs s1 → R vs s1) → wpAny (model P w) A.in1 (collect (.ref r)) R E s)
    (sq : ∀ vs s1, G vs s1 → vs.length ≤ sizeLine ∧ ∃ κ : PyProof.Rows.KeyKind, SortsAt P w A.in1.in1 { s1 with heap := sortingHeap (s1.heap.push (seqObj "list" vs.toArray 0)) s1.heap.objs.size vs } κ vs ∧
      Q (.ref s1.heap.objs.size) { s1 with heap := sortedHeap (s1.heap.push (seqObj "list" vs.toArray 0)) s1.heap.objs.size vs (sortVals κ false vs vs).toArray }) :
    wpAny (model P w) A (call (.builtin "sorted") [.ref r]) Q E s := by
  refine call_function_entry_kw kind_sorted plain_sorted entry_sorted (args_sorted1 _) ?_
  unfold Builtin.«sorted»
  refine wpAny_bind (m := checkCount "sorted" 1 1 _) (wpAny_pure (wpAny_bind (gather _ _ fun vs s1 g => ?_)))
  obtain ⟨len, κ, S, q⟩ := sq vs s1 g
  refine wpAny_bind (wpAny_newList ?_ len)
  have here : (s1.heap.push (seqObj "list" vs.toArray 0)).get? s1.heap.objs.size = some (seqObj "list" vs.toArray 0) := Heap.get?_push_size _ rfl
  refine wpAny_bind (wpAny_holding (wpAny_call_entry_kw slot_list_sort ⟨_, here, rfl⟩ entry_list_sort ?go (args_list_sort _)))
  case go =>
    show wpAny (model P w) A.in1.in1 (Builtin.«list.sort» ⟨[.ref s1.heap.objs.size], []⟩) _ _ _
    exact list_sort_vals (s := { s1 with heap := s1.heap.push (seqObj "list" vs.toArray 0) }) here S len ⟨_, rfl, wpAny_pure ⟨_, rfl, q⟩⟩
end
section
variable [Tbs] {X : Cx} {pins : List (Addr × Obj)} {σ : L2.St} {F H : Hp} {s : Shared}
abbrev IsD' (K : Kw) (F : Hp) (v : Value) (d : PyData) : Prop := ∃ x, RelV x v ∧ DV K F x d
theorem laid_list {s1 : Shared} {a : Addr} {ws : List V} {out : Array Value} {c : Nat} {Q : VK} (I : Inv X pins σ H s) (k : Kept s s1) (ha : s.heap.objs.size ≤ a) (hl : ws.length ≤ sizeLine) (r : Vals ws out.toList) (h : s1.heap.get? a = some (seqObj "list" out c))
    (q : Q (.ref a) (upd H a (.lst ws))) : EP X pins σ Q (.ref a) s1 := by
  have J : Inv X pins σ (upd H a (.lst ws)) { s with heap := s1.heap, gens := s1.gens, drawn := s1.drawn, toks := s1.toks } :=
    I.call (ch := []) (Un.laid k.1 ha (I.hok.fresh ha)) (I.hok.laid k.1 ha ⟨hl, out.toList, c, r, h⟩) (by rw [k.2.1]; exact I.bare) (fun _ z => nomatch z)
  have e : s1 = { s with heap := s1.heap, gens := s1.gens, drawn := s1.drawn, toks := s1.toks } := by
    obtain ⟨_, _, k3, _⟩ := k
    cases s1
    cases s
    cases k3
    rfl
  rw [e]
  exact ⟨.ref a, _, J, rfl, q⟩
theorem sorted_dat {r : Addr} {ds : List PyData} {Q : VK} (I : Inv X pins σ H s) (sub : Same F H) (hu : X.A.units + 64 < cLine)
    (gather : ∀ (E : Value → Shared → Prop) (R : List Value → Shared → Prop), (∀ vs s1, (Kept s s1 ∧ ∃ es, EachIs (IsD' X.KW F) vs es ∧ sortOk es = true ∧ sortD es = ds) → R vs s1) → wpAny (model X.prog X.w) X.A.in1 (collect (.ref r)) R E s)
    (q : ∀ a ws, H a = none → DVs X.KW F ws ds → Q (.ref a) (upd H a (.lst ws))) : wpAny (model X.prog X.w) X.A (call (.builtin "sorted") [.ref r]) (EP X pins σ Q) X.xe s := by
  refine sorted_by gather fun vs s1 ⟨k, es, e, ok, eo⟩ => ?_
  obtain ⟨z1, z2, z3, z4⟩ := sortOk_at ok
  have rd : EachIs (fun v d => ∃ as, Reads s.heap v d as) vs es := e.mono fun v d ⟨x, r, h⟩ => (DV.mono sub h).reads I r
  have rd' : EachIs (fun v d => ∃ as, Reads (sortingHeap (s1.heap.push (seqObj "list" vs.toArray 0)) s1.heap.objs.size vs) v d as) vs es :=
    rd.mono fun v d ⟨as, r⟩ => ⟨as, PyProof.Rows.Reads.keeps (fun b o z => sortingHeap_old (Nat.ne_of_lt (Heap.lt_size (k.1 b o z))) (Heap.get?_push_of_some _ (k.1 b o z))) r⟩
  have vl : vs.length ≤ sizeLine := by rw [e.length]; exact z4
  refine ⟨vl, dataKind _ es, SortsAt.data (s := { s1 with heap := sortingHeap (s1.heap.push (seqObj "list" vs.toArray 0)) s1.heap.objs.size vs }) rd' z1 z2 fun d hd => ?_, ?_⟩
  · have := z3 d hd
    show X.A.units + 1 + 1 + d.depth < cLine
    omega
  · have here : (s1.heap.push (seqObj "list" vs.toArray 0)).get? s1.heap.objs.size = some (seqObj "list" vs.toArray 0) := Heap.get?_push_size _ rfl
    generalize eh : s1.heap.push (seqObj "list" vs.toArray 0) = h1 at here rd' ⊢
    have eo2 := sortVals_data (enc := id) (bs := es) false e (by simpa using rd') (by simpa using z1)
    rw [List.map_id] at eo2
    obtain ⟨ws, dv, rv⟩ := each_dvs eo2
    have dv : DVs X.KW F ws (sortD es) := dv
    rw [eo] at dv
    obtain ⟨c, at2⟩ := sortedHeap_at (vs := vs) (out := (sortVals (dataKind (sortingHeap h1 s1.heap.objs.size vs) es) false vs vs).toArray) here
    have low := k.2.2.2
    refine laid_list I (s1 := { s1 with heap := sortedHeap h1 s1.heap.objs.size vs (sortVals (dataKind (sortingHeap h1 s1.heap.objs.size vs) es) false vs vs).toArray }) ⟨fun b o z => ?_, k.2.1, k.2.2.1, ?_⟩ low ?_ (by simpa using rv) at2 (q _ ws (I.hok.fresh low) dv)
    · have lt := Heap.lt_size (k.1 b o z)
      show (sortedHeap h1 s1.heap.objs.size vs _).get? b = some o
      rw [sortedHeap_old (Nat.ne_of_lt lt) (by rw [← eh, size_push']; exact Nat.lt_succ_of_lt lt), ← eh]
      exact Heap.get?_push_of_some _ (k.1 b o z)
    · have lt := Heap.lt_size at2
      exact Nat.le_trans low (Nat.le_of_lt lt)
    · rw [dv.len, ← eo]
      unfold sortD
      rw [List.length_mergeSort]
      exact z4
end
section
variable {P : Program} {w : World} {A : Around} {E : Value → Shared → Prop} {s : Shared} {T : String} {r d : Addr} {n : Nat} {Pv : Nat → Value → Prop} {OK : Heap → Prop}
end
section
variable [Tbs] {X : Cx} {C : Ct} {e : Expr} {pos p : Pos}
end
end Eg
namespace Sn
open PySem PyProof.Rows
section
variable {P : Program} {w : World}
def Says (P : Program) (w : World) (what : Nat → Value → Sem Bool) (b : Bool) (n : Nat) (s : Shared) (v : Value) : Prop :=
  ∀ (A : Around) (E : Value → Shared → Prop) (Q : Bool → Shared → Prop), Q b s → wpAny (model P w) A (what n v) Q E s
theorem says_pure {what : Nat → Value → Sem Bool} {b : Bool} {n : Nat} {s : Shared} {v : Value} (h : what n v = pure b) : Says P w what b n s v := fun A E Q q => by
  rw [h]; exact wpAny_pure q
theorem flat_class (n : Nat) (v : Value) (h : ∀ a, v ≠ .ref a) : ofAClassStatement n v = pure false := by
  cases v <;> first | rfl | (cases n <;> rfl) | exact absurd rfl (h _)
theorem tuple_class {n : Nat} {s : Shared} {a : Addr} {o : Obj} {vs : Array Value} {m : Nat} (ho : s.heap.get? a = some o) (hc : o.cls = .type "tuple") (hd : o.data = .seq vs m)
    (hq : ∀ v ∈ vs.toList, Says P w ofAClassStatement false n s v) : Says P w ofAClassStatement false (n + 1) s (.ref a) := fun A E Q q => by
  have hT : s.TypeIs (.ref a) "tuple" := ⟨o, ho, hc⟩
  unfold ofAClassStatement
  refine wpAny_bind (wpAny_typeOf hT ?_)
  dsimp only
  simp only [show (("tuple" : String) == "tuple") = true from by decide, if_true, Bool.not_true, Bool.false_eq_true, if_false]
  try refine wpAny_bind (wpAny_pure ?_)
  try simp only [Bool.not_true, Bool.false_eq_true, if_false]
  show wpAny _ _ (seqItems? (.ref a) >>= _) _ _ s
  refine wpAny_bind (wpAny_seqItems ho hd ?_)
  dsimp only
  refine wpAny_bind ?_
  show wpAny _ _ (forIn vs _ _) _ _ s
  rw [← Array.forIn_toList]
  refine wpAny_forIn_list _ (fun left r t => r.1 = none ∧ t = s ∧ ∀ v ∈ left, Says P w ofAClassStatement false n s v) _ ?_ ?_ _ _ ⟨rfl, rfl, hq⟩
  · rintro v left r t ⟨hr, rfl, hall⟩
    refine wpAny_bind (hall v List.mem_cons_self _ _ _ ?_)
    simp only [Bool.false_eq_true, if_false]
    exact wpAny_pure ⟨rfl, rfl, fun u hu => hall u (List.mem_cons_of_mem _ hu)⟩
  · rintro ⟨r1, r2⟩ t ⟨hr, rfl, _⟩
    simp only at hr
    subst hr
    exact wpAny_pure q
mutual
theorem key_class : ∀ (k : NestedKey) (v : Value) (n : Nat) (s : Shared), NestedIs s.heap k v → k.depth ≤ n → Says P w ofAClassStatement false n s v
  | .none, _, n, s, x, _ => by cases x; exact says_pure (flat_class n _ (fun a z => by cases z))
  | .num i, _, n, s, x, _ => by cases x <;> exact says_pure (flat_class n _ (fun a z => by cases z))
  | .text y, _, n, s, x, _ => by cases x; exact says_pure (flat_class n _ (fun a z => by cases z))
  | .tup ks, _, n, s, x, hn => by
    cases x with
    | tup hg hc hd hk =>
      simp only [NestedKey.depth] at hn
      cases n with
      | zero => omega
      | succ n => exact tuple_class hg hc hd (keys_class ks _ n s hk (by omega))
theorem keys_class : ∀ (ks : List NestedKey) (vs : List Value) (n : Nat) (s : Shared), NestedAll s.heap ks vs → NestedKey.depthAll ks ≤ n → ∀ v ∈ vs, Says P w ofAClassStatement false n s v
  | [], _, n, s, x, _, v, hv => by cases x; cases hv
  | k :: ks, _, n, s, x, hn, v, hv => by
    cases x with
    | cons x1 x2 =>
      simp only [NestedKey.depthAll] at hn
      rcases List.mem_cons.mp hv with e | hv
      · rw [e]; exact key_class k _ n s x1 (by omega)
      · exact keys_class ks _ n s x2 (by omega) v hv
end
end
end Sn
namespace Sn
open PySem PyProof.Rows L2
section
variable {P : Program} {w : World} {A : Around} {E : Value → Shared → Prop} {s : Shared}
theorem unseen {k : NestedKey} {b : Addr} {Q : Bool → Shared → Prop} (hk : (nestedKind P w).is s.heap k b) {ys : List Value} (hy : ∀ y ∈ ys, ∃ j c, y = Value.ref c ∧ (nestedKind P w).is s.heap j c) (h : Q false s) :
    wpAny (model P w) A (searchCouldBeSeen (.ref b) ys) Q E s := by
  have q1 : ∀ {j : NestedKey} {c : Addr}, (nestedKind P w).is s.heap j c → Says P w eqIsQuiet true 8 s (.ref c) := fun hj A E Q q => quiet_key _ _ 8 s hj.1 hj.2 A E Q q
  have q2 : ∀ {j : NestedKey} {c : Addr}, (nestedKind P w).is s.heap j c → Says P w ofAClassStatement false 8 s (.ref c) := fun hj => key_class _ _ 8 s hj.1 hj.2
  unfold searchCouldBeSeen
  refine wpAny_bind ?_
  refine wpAny_forIn_list _ (fun left r t => r.1 = none ∧ t = s ∧ ∀ y ∈ left, ∃ j c, y = Value.ref c ∧ (nestedKind P w).is s.heap j c) _ ?_ ?_ _ _ ⟨rfl, rfl, hy⟩
  · rintro v left r t ⟨hr, rfl, hall⟩
    obtain ⟨j, c, rfl, hc⟩ := hall v List.mem_cons_self
    have hl : ∀ y ∈ left, ∃ j c, y = Value.ref c ∧ (nestedKind P w).is t.heap j c := fun u hu => hall u (List.mem_cons_of_mem _ hu)
    dsimp only
    by_cases hv : (b == c || (carriedByValue (.ref b) && carriedByValue (.ref c))) = true
    · exact wp_if_pos hv (wpAny_pure ⟨rfl, rfl, hl⟩)
    · refine wp_if_neg hv ?_
      refine wpAny_bind (q1 hk _ _ _ ?_)
      simp only [Bool.not_true, Bool.false_eq_true, if_false]
      refine wpAny_bind (q1 hc _ _ _ ?_)
      simp only [Bool.not_true, Bool.false_eq_true, if_false]
      refine wpAny_bind (q2 hk _ _ _ ?_)
      simp only [Bool.false_eq_true, if_false]
      refine wpAny_bind (q2 hc _ _ _ ?_)
      simp only [Bool.false_eq_true, if_false]
      exact wpAny_pure ⟨rfl, rfl, hl⟩
  · rintro ⟨r1, r2⟩ t ⟨hr, rfl, _⟩
    simp only at hr
    subst hr
    exact wpAny_pure h
end
section
variable {P : Program} {w : World}
mutual
def byVal : NestedKey → Bool
  | .none => true
  | .num _ => true
  | .text _ => false
  | .tup ks => byVals ks
def byVals : List NestedKey → Bool
  | [] => true
  | k :: ks => byVal k && byVals ks
end
def HashBy (P : Program) (w : World) (n : Nat) (s : Shared) (b : Bool) (v : Value) : Prop := Says P w hashByValue b n s v
inductive HashAll (P : Program) (w : World) (n : Nat) (s : Shared) : Bool → List Value → Prop
  | nil : HashAll P w n s true []
  | cons {b c : Bool} {v : Value} {vs : List Value} : HashBy P w n s b v → HashAll P w n s c vs → HashAll P w n s (b && c) (v :: vs)
theorem tuple_hashBy {n : Nat} {s : Shared} {a : Addr} {o : Obj} {vs : Array Value} {m : Nat} {b : Bool} (ho : s.heap.get? a = some o) (hc : o.cls = .type "tuple") (hd : o.data = .seq vs m)
    (hq : HashAll P w n s b vs.toList) : HashBy P w (n + 1) s b (.ref a) := fun A E Q q => by
  have hT : s.TypeIs (.ref a) "tuple" := ⟨o, ho, hc⟩
  unfold hashByValue
  refine wpAny_bind (wpAny_specialOf hT F.slot_tuple_hash.lookup ?_)
  show wpAny _ _ (seqItems? (.ref a) >>= _) _ _ s
  refine wpAny_bind (wpAny_seqItems ho hd ?_)
  refine wpAny_bind ?_
  show wpAny _ _ (forIn vs _ _) _ _ s
  rw [← Array.forIn_toList]
  refine wpAny_forIn_list _ (fun left r t => r.1 = none ∧ t = s ∧ HashAll P w n s b left) _ ?_ ?_ _ _ ⟨rfl, rfl, hq⟩
  · rintro v left r t ⟨hr, rfl, h⟩
    cases h with
    | @cons b1 c1 _ _ h1 h2 =>
      refine wpAny_bind (h1 _ _ _ ?_)
      cases b1 with
      | true =>
        simp only [Bool.not_true, Bool.false_eq_true, if_false]
        exact wpAny_pure ⟨rfl, rfl, by simpa using h2⟩
      | false =>
        simp only [Bool.not_false, if_true]
        exact wpAny_pure (wpAny_pure q)
  · rintro ⟨r1, r2⟩ t ⟨hr, rfl, h⟩
    simp only at hr
    subst hr
    cases h
    exact wpAny_pure q
mutual
theorem key_hashBy : ∀ (k : NestedKey) (v : Value) (n : Nat) (s : Shared), NestedIs s.heap k v → k.depth ≤ n → HashBy P w n s (byVal k) v
  | .none, _, n, s, x, _ => by cases x; exact says_pure (by cases n <;> rfl)
  | .num i, _, n, s, x, _ => by cases x <;> exact says_pure (by cases n <;> rfl)
  | .text y, _, n, s, x, _ => by cases x; exact says_pure (by cases n <;> rfl)
  | .tup ks, _, n, s, x, hn => by
    cases x with
    | tup hg hc hd hk =>
      simp only [NestedKey.depth] at hn
      cases n with
      | zero => omega
      | succ n => exact tuple_hashBy hg hc hd (keys_hashBy ks _ n s hk (by omega))
theorem keys_hashBy : ∀ (ks : List NestedKey) (vs : List Value) (n : Nat) (s : Shared), NestedAll s.heap ks vs → NestedKey.depthAll ks ≤ n → HashAll P w n s (byVals ks) vs
  | [], _, n, s, x, _ => by cases x; exact .nil
  | k :: ks, _, n, s, x, hn => by
    cases x with
    | cons x1 x2 =>
      simp only [NestedKey.depthAll] at hn
      exact .cons (key_hashBy k _ n s x1 (by omega)) (keys_hashBy ks _ n s x2 (by omega))
end
end
end Sn
namespace Sn
open PySem PyProof.Rows L2
def spot (t : SetTable) (H : Int) (c : Nat) : SetTable.Probe := nth t.mask (runAt t.mask (SetTable.bits H % (t.mask + 1)) (SetTable.bits H)) c
theorem spot_on (t : SetTable) (H : Int) (c q : Nat) : nth t.mask (spot t H c) q = spot t H (c + q) := (nth_add t.mask c _ q).symm
theorem spot_dummy (t : SetTable) (H : Int) : ∀ c, (spot t H c).dummy = none := by
  have go : ∀ (n : Nat) (p : SetTable.Probe), p.dummy = none → (nth t.mask p n).dummy = none := by
    intro n
    induction n with
    | zero => exact fun p h => h
    | succ n ih => exact fun p h => ih _ (by unfold adv; split <;> exact h)
  exact fun c => go c _ rfl
theorem hash_here {t : SetTable} {hs : List Int} (T : TabOk t hs) {i j : Nat} (h : t.place.toList[i]? = some j) : ∃ x, hs[i]? = some x := by
  have h1 : i < t.place.toList.length := (List.getElem?_eq_some_iff.mp h).1
  rw [Array.length_toList, T.sz] at h1
  exact ⟨_, List.getElem?_eq_getElem h1⟩
theorem probe_at {t : SetTable} {hs : List Int} (T : TabOk t hs) {f : Nat → Int} (hf : ∀ i x, hs[i]? = some x → f i = x) {H : Int} {K c : Nat} (hK : way t.mask H K ∉ t.place.toList)
    (hb : ∀ k, k < K → way t.mask H k ∈ t.place.toList) (hm : K < 10 * SetTable.turns t.mask) (hc : c ≤ K) :
    (∃ (q i : Nat), c + q < K ∧ t.place.toList[i]? = some (way t.mask H (c + q)) ∧ hs[i]? = some H ∧ (∀ (q' i' : Nat), q' < q → t.place.toList[i']? = some (way t.mask H (c + q')) → hs[i']? ≠ some H) ∧
      t.probe f H (spot t H c) = some (.candidate (way t.mask H (c + q)) i (spot t H (c + (q + 1))))) ∨
    ((∀ (q i : Nat), c + q < K → t.place.toList[i]? = some (way t.mask H (c + q)) → hs[i]? ≠ some H) ∧ t.probe f H (spot t H c) = some (.empty (way t.mask H K) none)) := by
  have e : ∀ q, (nth t.mask (spot t H c) q).j = way t.mask H (c + q) := fun q => by rw [spot_on]; rfl
  have sp := go_spec t T.ris T.dm f H (10 * SetTable.turns t.mask) (K - c) (spot t H c) (spot_dummy t H c) (by omega) (fun q hq => by rw [e]; exact hb _ (by omega)) (by rw [e, show c + (K - c) = K by omega]; exact hK)
  have ne : ∀ i j, t.place.toList[i]? = some j → f i ≠ H → hs[i]? ≠ some H := fun i j _ h z => h (hf i H z)
  rcases sp with ⟨q, i, hq, hi, hh, hno, hp⟩ | ⟨hno, hp⟩
  · refine .inl ⟨q, i, by omega, by rw [← e]; exact hi, ?_, fun q' i' h1 h2 => ne i' _ h2 (hno q' i' h1 (by rw [e]; exact h2)), ?_⟩
    · obtain ⟨x, hx⟩ := hash_here T hi
      rw [hx, ← hf i x hx, hh]
    · rw [← e, ← spot_on]; exact hp
  · refine .inr ⟨fun q i h1 h2 => ne i _ h2 (hno q i (by omega) (by rw [e]; exact h2)), ?_⟩
    have : way t.mask H K = (nth t.mask (spot t H c) (K - c)).j := by rw [e, show c + (K - c) = K by omega]
    rw [this]
    exact hp
end Sn
namespace Sn
open PySem PyProof.Rows L2
section
variable {P : Program} {w : World} {A : Around} {E : Value → Shared → Prop} {s : Shared}
structure NSet (P : Program) (w : World) (h : Heap) (a : Addr) (L : List (Addr × NestedKey)) (es : Array (Int × Value)) (ep : Nat) (t : SetTable) : Prop where
  here : ∃ o, h.get? a = some o ∧ o.ExactSet ∧ o.data = .set es ep t
  rows : es.toList = L.map fun p => (p.2.hash w, Value.ref p.1)
  tab : TabOk t (L.map fun p => p.2.hash w)
  nodup : (L.map (·.2)).Nodup
  keys : ∀ p ∈ L, (nestedKind P w).is h p.2 p.1
  room : L.length * 5 < t.mask * 3
  few : L.length < 64
  led : w.params.followText "set-order" = true ∨ t.led = true
variable {a : Addr} {L : List (Addr × NestedKey)} {es : Array (Int × Value)} {ep : Nat} {t : SetTable}
theorem NSet.size (R : NSet P w s.heap a L es ep t) : es.size = L.length := by
  rw [← Array.length_toList, R.rows, List.length_map]
theorem NSet.row (R : NSet P w s.heap a L es ep t) {i : Nat} {p : Addr × NestedKey} (h : L[i]? = some p) : es[i]? = some (p.2.hash w, Value.ref p.1) := by
  rw [← Array.getElem?_toList, R.rows, List.getElem?_map, h]
  rfl
theorem NSet.fits (R : NSet P w s.heap a L es ep t) : t.fits es.size = true := by
  have h1 : t.place.size = es.size := by rw [R.size, R.tab.sz, List.length_map]
  have h2 := R.size
  have h3 := R.room
  unfold SetTable.fits SetTable.fill
  rw [R.tab.dm]
  simp only [Bool.and_eq_true, beq_iff_eq, decide_eq_true_eq]
  exact ⟨h1, by show t.place.size + 0 ≤ t.mask; omega⟩
theorem NSet.whole (R : NSet P w s.heap a L es ep t) : ¬ t.gaveWay = true := by
  unfold SetTable.gaveWay
  rw [mask_odd R.tab.mok]
  decide
theorem NSet.there (R : NSet P w s.heap a L es ep t) {i j : Nat} (h : t.place.toList[i]? = some j) : ∃ p, L[i]? = some p ∧ p ∈ L := by
  obtain ⟨x, hx⟩ := hash_here R.tab h
  rw [List.getElem?_map] at hx
  cases e : L[i]? with
  | none => rw [e] at hx; cases hx
  | some p => exact ⟨p, rfl, List.mem_of_getElem? e⟩
theorem look (R : NSet P w s.heap a L es ep t) {x : Addr} {k : NestedKey} (hx : (nestedKind P w).is s.heap k x) (hu : (nestedKind P w).room A) {K : Nat} (hm : K < 10 * SetTable.turns t.mask)
    (hK : way t.mask (k.hash w) K ∉ t.place.toList) (hb : ∀ c, c < K → way t.mask (k.hash w) c ∈ t.place.toList) {Q : SetFound → Shared → Prop}
    (yes : k ∈ L.map (·.2) → Q (.there none) s) (no : k ∉ L.map (·.2) → Q (.free (way t.mask (k.hash w) K) false) s) :
    ∀ (f c : Nat) (stand : Option SetTable.Probe), stand.getD (t.probeStart (k.hash w)) = spot t (k.hash w) c → c ≤ K → K - c < f →
      (∀ (i : Nat) p, L[i]? = some p → p.2 = k → ∃ c', c ≤ c' ∧ c' < K ∧ t.place.toList[i]? = some (way t.mask (k.hash w) c')) →
      wpAny (model P w) A (setSearchFrom a (.ref x) (k.hash w) true f stand) Q E s
  | 0, c, stand, _, _, hf, _ => absurd hf (Nat.not_lt_zero _)
  | f + 1, c, stand, hst, hc, hf, ahead => by
    obtain ⟨o, ho, hex, hd⟩ := R.here
    have hash : ∀ (i : Nat) (y : Int), (L.map fun p => p.2.hash w)[i]? = some y → (fun i : Nat => (es[i]?.map (·.1)).getD 0) i = y := fun i y h => by
      rw [List.getElem?_map] at h
      cases e : L[i]? with
      | none => rw [e] at h; cases h
      | some p => rw [e] at h; cases h; show (es[i]?.map (·.1)).getD 0 = _; rw [R.row e]; rfl
    have hashOf : ∀ {i : Nat} {p : Addr × NestedKey}, L[i]? = some p → p.2 = k → (L.map fun p => p.2.hash w)[i]? = some (k.hash w) := fun h e => by rw [List.getElem?_map, h, ← e]; rfl
    rw [setSearchFrom_succ]
    refine wpAny_bind (wpAny_setState_of ho hd R.fits ?_)
    dsimp only
    refine wp_if_neg R.whole ?_
    try refine wpAny_bind (wpAny_pure ?_)
    rw [hst]
    rcases probe_at R.tab hash (H := k.hash w) hK hb hm hc with ⟨q, i, hq, hi, hh, none1, hp⟩ | ⟨none1, hp⟩
    · rw [hp]
      dsimp only
      obtain ⟨p, hpi, hpL⟩ := R.there hi
      have go : wpAny (model P w) A (searchRest a (.ref x) (k.hash w) true f es t (way t.mask (k.hash w) (c + q)) i (spot t (k.hash w) (c + (q + 1)))) Q E s := by
        unfold searchRest
        rw [R.row hpi]
        dsimp only
        refine wpAny_bind (wpAny_holding ((nestedKind P w).eqBool hu (R.keys p hpL) hx ?_))
        refine wpAny_bind (wpAny_setState_of ho hd R.fits ?_)
        dsimp only
        by_cases e : p.2 = k
        · exact wp_if_pos (by simp [e]) (wpAny_pure (yes (List.mem_map.mpr ⟨p, hpL, e⟩)))
        · refine wp_if_neg (by simp [e]) ?_
          try refine wpAny_bind (wpAny_pure ?_)
          rw [sameMem]
          dsimp only
          have sl : t.slot (way t.mask (k.hash w) (c + q)) = .live i := slot_live R.tab.ris hi
          simp only [if_true, sl, R.row hpi]
          refine wpAny_bind (wpAny_isSame_ref_self (wpAny_bind (wpAny_pure ?_)))
          simp only [if_true]
          refine wp_if_neg (by simp [e]) ?_
          refine look R hx hu hm hK hb yes no f (c + (q + 1)) _ rfl (by omega) (by omega) fun i1 p1 h1 e1 => ?_
          obtain ⟨c', z1, z2, z3⟩ := ahead i1 p1 h1 e1
          refine ⟨c', ?_, z2, z3⟩
          by_cases lt : c' < c + q
          · exact absurd (hashOf h1 e1) (none1 (c' - c) i1 (by omega) (by rw [show c + (c' - c) = c' by omega]; exact z3))
          · by_cases eq : c' = c + q
            · exfalso
              rw [eq] at z3
              have := slot_live R.tab.ris z3
              rw [sl] at this
              injection this with this
              rw [← this, hpi] at h1
              exact e (by rw [Option.some.inj h1]; exact e1)
            · omega
      by_cases hl : t.led = true
      · refine wp_if_neg (by simp [hl]) ?_
        try refine wpAny_bind (wpAny_pure ?_)
        exact go
      · refine wp_if_pos (by simp [hl]) ?_
        refine wpAny_bind (unseen hx (fun y hy => ?_) ?_)
        · obtain ⟨e, he, rfl⟩ := List.mem_map.mp hy
          have he1 : e ∈ es := by simpa using (by simpa using he : e ∈ es ∧ e.1 = k.hash w).1
          have he2 : e ∈ es.toList := by simpa using he1
          rw [R.rows] at he2
          obtain ⟨p2, hp2, rfl⟩ := List.mem_map.mp he2
          exact ⟨p2.2, p2.1, rfl, R.keys p2 hp2⟩
        · refine wp_if_neg (by decide) ?_
          try refine wpAny_bind (wpAny_pure ?_)
          exact go
    · rw [hp]
      dsimp only
      refine wpAny_pure (no fun hk => ?_)
      obtain ⟨p, hpL, e⟩ := List.mem_map.mp hk
      obtain ⟨i, hi, hpe⟩ := List.getElem_of_mem hpL
      have hpi : L[i]? = some p := by rw [List.getElem?_eq_getElem hi, hpe]
      obtain ⟨c', z1, z2, z3⟩ := ahead i p hpi e
      exact none1 (c' - c) i (by omega) (by rw [show c + (c' - c) = c' by omega]; exact z3) (hashOf hpi e)
end
end Sn
namespace Sn
open PySem PyProof.Rows L2
section
variable {P : Program} {w : World} {A : Around} {E : Value → Shared → Prop} {s : Shared} {a : Addr} {L : List (Addr × NestedKey)} {es : Array (Int × Value)} {ep : Nat} {t : SetTable}
theorem look_all (R : NSet P w s.heap a L es ep t) {x : Addr} {k : NestedKey} (hx : (nestedKind P w).is s.heap k x) (hu : (nestedKind P w).room A) {Q : SetFound → Shared → Prop}
    (yes : k ∈ L.map (·.2) → Q (.there none) s)
    (no : ∀ K, k ∉ L.map (·.2) → way t.mask (k.hash w) K ∉ t.place.toList → (∀ c, c < K → way t.mask (k.hash w) c ∈ t.place.toList) → Q (.free (way t.mask (k.hash w) K) false) s) :
    wpAny (model P w) A (setSearch a (.ref x) (k.hash w) true) Q E s := by
  have hr := R.room
  obtain ⟨K, hm, hK, hb⟩ := R.tab.first (by rw [List.length_map]; omega) (k.hash w)
  have big : K < 100000 := by
    have : 10 * SetTable.turns t.mask < 100000 := by
      unfold SetTable.turns
      rcases R.tab.mok with e | e | e <;> omega
    omega
  unfold setSearch
  refine look R hx hu hm hK hb yes (fun h => no K h hK hb) 100000 0 none rfl (Nat.zero_le _) (by omega) fun i p hp hk => ?_
  have hi : (L.map fun p => p.2.hash w)[i]? = some (k.hash w) := by rw [List.getElem?_map, hp, ← hk]; rfl
  have hil : i < t.place.toList.length := by
    have h1 : i < L.length := (List.getElem?_eq_some_iff.mp hp).1
    rw [Array.length_toList, R.tab.sz, List.length_map]
    exact h1
  have hj := List.getElem?_eq_getElem hil
  obtain ⟨c, hc, e⟩ := R.tab.before hK hi hj
  exact ⟨c, Nat.zero_le _, hc, by rw [hj, e]⟩
theorem key_same {h h' : Heap} {k : NestedKey} {b : Addr} {o : Obj} (hb : (nestedKind P w).is h k b) (ho : h.get? a = some o) (hd : o.data = .set es ep t) (sb : Heap.SameBut a h h') : (nestedKind P w).is h' k b :=
  ⟨NestedIs.at (fun c oc vs n hc he => (sb.2 c fun e => by
    subst e
    rw [ho] at hc
    cases hc
    rw [hd] at he
    cases he).trans hc) k _ hb.1, hb.2⟩
end
end Sn
namespace Sn
open PySem PyProof.Rows L2
theorem range_pick {α : Type} : ∀ L : List α, (List.range L.length).filterMap (fun i => L[i]?) = L
  | [] => rfl
  | x :: L => by
    rw [List.length_cons, List.range_succ_eq_map, List.filterMap_cons, List.filterMap_map]
    show x :: (List.range L.length).filterMap (fun i => L[i]?) = _
    rw [range_pick L]
theorem pick_perm {α : Type} {L : List α} {order : List Nat} (h : order.Perm (List.range L.length)) : (order.filterMap fun i => L[i]?).Perm L := by
  have := h.filterMap (fun i => L[i]?)
  rw [range_pick] at this
  exact this
theorem pick_map {α β : Type} {L : List α} (f : α → β) : ∀ order : List Nat, (order.filterMap fun i => (L.map f)[i]?) = (order.filterMap fun i => L[i]?).map f
  | [] => rfl
  | i :: order => by
    rw [List.filterMap_cons, List.filterMap_cons, List.getElem?_map, pick_map f order]
    cases L[i]? <;> rfl
theorem pick_getD {α β : Type} {L : List α} (f : α → β) (d : β) : ∀ order : List Nat, (∀ i ∈ order, i < L.length) → (order.filterMap fun i => L[i]?).map f = order.map fun i => (L.map f).getD i d
  | [], _ => rfl
  | i :: order, h => by
    have hi := h i List.mem_cons_self
    rw [List.filterMap_cons, List.getElem?_eq_getElem hi, List.map_cons, List.map_cons, pick_getD f d order fun j hj => h j (List.mem_cons_of_mem _ hj)]
    congr 1
    simp [List.getD, List.getElem?_map, List.getElem?_eq_getElem hi]
section
variable {P : Program} {w : World} {A : Around} {E : Value → Shared → Prop} {s : Shared} {a : Addr} {L : List (Addr × NestedKey)} {es : Array (Int × Value)} {ep : Nat} {t : SetTable}
theorem lay_anew {o : Obj} (ho : s.heap.get? a = some o) (hex : o.ExactSet) (hd : o.data = .set es ep t) (rows : es.toList = L.map fun p => (p.2.hash w, Value.ref p.1)) (T : TabOk t (L.map fun p => p.2.hash w)) (hfl : L.length ≤ t.mask)
    (nd : (L.map (·.2)).Nodup) (keys : ∀ p ∈ L, (nestedKind P w).is s.heap p.2 p.1) (few : L.length < 64) (led : w.params.followText "set-order" = true ∨ t.led = true) {wanted M : Nat}
    (hw : SetTable.sizeAbove wanted - 1 = M) (hM : MaskOk M) (hw2 : SetTable.sizeAbove wanted ≤ 128) (hn : L.length * 5 < M * 3) {Q : Unit → Shared → Prop}
    (hQ : ∀ h' L' es' ep' t', Heap.SameBut a s.heap h' → NSet P w h' a L' es' ep' t' → L'.Perm L → Q () { s with heap := h' }) : wpAny (model P w) A (setRelay a wanted) Q E s := by
  have hsl : es.size = L.length := by rw [← Array.length_toList, rows, List.length_map]
  have hpl : t.place.size = es.size := by rw [hsl, T.sz, List.length_map]
  have hfits : t.fits es.size = true := by
    unfold SetTable.fits SetTable.fill
    rw [T.dm]
    simp only [Bool.and_eq_true, beq_iff_eq, decide_eq_true_eq]
    exact ⟨hpl, by show t.place.size + 0 ≤ t.mask; omega⟩
  obtain ⟨t', order, e, hp, T', em, el, _, _⟩ := relaid_ok t (hs := es.map (·.1)) (wanted := wanted) hw hM (by rw [Array.size_map, hsl]; omega)
  rw [Array.size_map, hsl] at hp
  have r1 : (order.filterMap (es[·]?)).toList = (order.toList.filterMap fun i => L[i]?).map fun p => (p.2.hash w, Value.ref p.1) := by
    rw [Array.toList_filterMap, ← pick_map]
    congr 1
    funext i
    rw [← rows, Array.getElem?_toList]
  have r2 : (order.toList.filterMap fun i => L[i]?).Perm L := pick_perm hp
  have r3 : ((order.toList.filterMap fun i => L[i]?).map fun p => p.2.hash w) = order.toList.map fun i => (es.map (·.1)).getD i 0 := by
    rw [pick_getD (fun p : Addr × NestedKey => p.2.hash w) 0 order.toList fun i hi => List.mem_range.mp (hp.mem_iff.mp hi)]
    refine List.map_congr_left fun i _ => ?_
    rw [Array.getD_eq_getD_getElem?, ← Array.getElem?_toList, Array.toList_map, rows, List.map_map]
    simp only [List.getD, List.getElem?_map]
    rfl
  rw [← r3] at T'
  generalize (order.toList.filterMap fun i => L[i]?) = L2 at r1 r2 r3 T'
  have hs2 : (order.filterMap (es[·]?)).size = es.size := by rw [← Array.length_toList, r1, List.length_map, r2.length_eq, hsl]
  rw [setRelay_eq]
  refine wpAny_bind (wpAny_setState_of ho hd hfits ?_)
  dsimp only
  refine wp_if_neg (by rw [sizeLine_eq]; omega) ?_
  try refine wpAny_bind (wpAny_pure ?_)
  rw [e]
  dsimp only
  refine wpAny_bind ?_
  refine wp_if_neg (by rw [hs2]; simp) ?_
  try refine wpAny_bind (wpAny_pure ?_)
  refine wpAny_pure ?_
  dsimp only
  refine wpAny_storeSet_of ho hd ?_ (by rw [hs2, hsl, sizeLine_eq]; omega)
  have sb : Heap.SameBut a s.heap (s.heap.update a (Obj.putSet (order.filterMap (es[·]?)) t')) := Heap.SameBut.update ..
  refine hQ _ L2 (order.filterMap (es[·]?)) (ep + 1) t' sb ⟨⟨_, store_at ho hd, ⟨hex.1, hex.2.1, hex.2.2⟩, rfl⟩, r1, T', ?_, fun p hpm => key_same (keys p (r2.mem_iff.mp hpm)) ho hd sb, ?_, by rw [r2.length_eq]; exact few, by rw [el]; exact led⟩ r2
  · exact (r2.map (·.2)).nodup_iff.mpr nd
  · rw [r2.length_eq, em]; exact hn
end
end Sn
namespace Sn
open PySem PyProof.Rows L2
section
variable {P : Program} {w : World} {A : Around} {E : Value → Shared → Prop} {s : Shared} {a : Addr} {L : List (Addr × NestedKey)} {es : Array (Int × Value)} {ep : Nat} {t : SetTable}
theorem TabOk.plainly {t : SetTable} {hs : List Int} (T : TabOk t hs) (b : Bool) : TabOk { t with plain := b } hs := ⟨T.ris, T.dm, T.sz, T.mok, T.bd, T.reach⟩
theorem put_key (R : NSet P w s.heap a L es ep t) {x : Addr} {k : NestedKey} (hx : (nestedKind P w).is s.heap k x) (hu : (nestedKind P w).room A) (few : L.length + 1 < 64) {Q : Bool → Shared → Prop}
    (hQ : ∀ b h' L' es' ep' t', Heap.SameBut a s.heap h' → NSet P w h' a L' es' ep' t' → (k ∈ L.map (·.2) → L' = L) → (k ∉ L.map (·.2) → L'.Perm ((x, k) :: L)) → Q b { s with heap := h' }) :
    wpAny (model P w) A (setAddHashed a (.ref x) (k.hash w)) Q E s := by
  obtain ⟨o, ho, hex, hd⟩ := R.here
  have hsl := R.size
  have hroom := R.room
  unfold setAddHashed
  refine wpAny_holding ?_
  rw [show (100000 : Nat) = 99999 + 1 from rfl, setAddHashedIn_succ]
  refine wpAny_bind (wpAny_setState_of ho hd R.fits ?_)
  dsimp only
  refine wp_if_neg (by simp [byScan, Value.scannable]) ?_
  try refine wpAny_bind (wpAny_pure ?_)
  refine wpAny_bind (look_all R hx hu (fun hm => ?_) fun K hm hK hb => ?_)
  · dsimp only
    exact wpAny_pure (hQ false s.heap L es ep t (Heap.SameBut.refl a s.heap) R (fun _ => rfl) fun z => absurd hm z)
  · dsimp only
    refine wpAny_bind (wpAny_setState_of ho hd R.fits ?_)
    dsimp only
    obtain ⟨q1, q2, q3, q4, q5, q6, q7, q8, q9⟩ := R.tab.put hK hb
    generalize hpt : t.put (way t.mask (k.hash w) K) = pt at q1 q3 q4 q5 q6 q7 q8 q9 ⊢
    obtain ⟨t1, at1⟩ := pt
    dsimp only at q1 q3 q4 q5 q6 q7 q8 q9 ⊢
    subst q1
    have pm := put_perm L (SetTable.below t.place (way t.mask (k.hash w) K)) (x, k)
    have rows1 : (SetTable.insertAt es (SetTable.below t.place (way t.mask (k.hash w) K)) (k.hash w, Value.ref x)).toList = (L.take (SetTable.below t.place (way t.mask (k.hash w) K)) ++ (x, k) :: L.drop (SetTable.below t.place (way t.mask (k.hash w) K))).map fun p => (p.2.hash w, Value.ref p.1) := by
      rw [SetTable.toList_insertAt, R.rows, List.map_append, List.map_cons, List.map_take, List.map_drop]
    rw [← List.map_take, ← List.map_drop, ← List.map_cons (f := fun p : Addr × NestedKey => p.2.hash w) (a := (x, k)), ← List.map_append] at q3
    generalize SetTable.insertAt es (SetTable.below t.place (way t.mask (k.hash w) K)) (k.hash w, Value.ref x) = es1 at rows1 ⊢
    generalize L.take (SetTable.below t.place (way t.mask (k.hash w) K)) ++ (x, k) :: L.drop (SetTable.below t.place (way t.mask (k.hash w) K)) = L1 at pm rows1 q3
    have len1 : L1.length = L.length + 1 := pm.length_eq
    have nd1 : (L1.map (·.2)).Nodup := (pm.map (·.2)).nodup_iff.mpr (by rw [List.map_cons]; exact List.nodup_cons.mpr ⟨hm, R.nodup⟩)
    have size1 : es1.size = L.length + 1 := by rw [← Array.length_toList, rows1, List.length_map, len1]
    have rest : ∀ t2 : SetTable, TabOk t2 (L1.map fun p => p.2.hash w) → t2.mask = t.mask → t2.led = t.led → (t2.tooFull = true ↔ t1.tooFull = true) →
        wpAny (model P w) A (do
          storeSet a es1 t2
          if (!false && t2.tooFull) = true then do
            setRelay a (SetTable.grown (es.size + 1))
            pure true
          else pure true) Q E s := by
      intro t2 T2 m2 e2 tf
      refine wpAny_bind (wpAny_storeSet_of ho hd ?_ (by rw [size1, sizeLine_eq]; omega))
      have sb : Heap.SameBut a s.heap (s.heap.update a (Obj.putSet es1 t2)) := Heap.SameBut.update ..
      have ho1 := store_at (es' := es1) (t' := t2) ho hd
      generalize s.heap.update a (Obj.putSet es1 t2) = h1 at sb ho1 ⊢
      have keys1 : ∀ p ∈ L1, (nestedKind P w).is h1 p.2 p.1 := fun p hp => by
        rcases List.mem_cons.mp (pm.mem_iff.mp hp) with e | hp
        · rw [e]; exact key_same hx ho hd sb
        · exact key_same (R.keys p hp) ho hd sb
      have full : t1.tooFull = decide ((L.length + 1) * 5 ≥ t.mask * 3) := by
        unfold SetTable.tooFull
        rw [q9, List.length_map, q4]
      by_cases hf : t1.tooFull = true
      · refine wp_if_pos (by rw [tf.mpr hf]; rfl) ?_
        rw [full, decide_eq_true_eq] at hf
        rw [hsl]
        have two : (t.mask = 7 ∧ L.length = 4) ∨ (t.mask = 31 ∧ L.length = 18) := by
          rcases R.tab.mok with e | e | e <;> rw [e] at hf hroom
          · exact .inl ⟨e, by omega⟩
          · exact .inr ⟨e, by omega⟩
          · omega
        have go : ∀ M, SetTable.sizeAbove (SetTable.grown (L.length + 1)) - 1 = M → MaskOk M → SetTable.sizeAbove (SetTable.grown (L.length + 1)) ≤ 128 → (L.length + 1) * 5 < M * 3 →
            wpAny (model P w) A (do
              setRelay a (SetTable.grown (L.length + 1))
              pure true) Q E { s with heap := h1 } := fun M g1 g2 g3 g4 => by
          refine wpAny_bind (lay_anew (s := { s with heap := h1 }) ho1 ⟨hex.1, hex.2.1, hex.2.2⟩ rfl rows1 T2 (by rw [len1, m2]; rcases two with ⟨e, e3⟩ | ⟨e, e3⟩ <;> omega) nd1 keys1 (by rw [len1]; exact few) (by rw [e2]; exact R.led) g1 g2 g3 (by rw [len1]; exact g4) ?_)
          intro h2 L2 es2 ep2 t3 sb2 R2 pm2
          exact wpAny_pure (hQ true h2 L2 es2 ep2 t3 (sb.trans sb2) R2 (fun z => absurd z hm) fun _ => pm2.trans pm)
        rcases two with ⟨_, e3⟩ | ⟨_, e3⟩
        · exact go 31 (by rw [e3, size_20]) (.inr (.inl rfl)) (by rw [e3, size_20]; decide) (by omega)
        · exact go 127 (by rw [e3, size_76]) (.inr (.inr rfl)) (by rw [e3, size_76]; decide) (by omega)
      · refine wp_if_neg (by intro z; exact hf (tf.mp (by simpa using z))) ?_
        refine wpAny_pure (hQ true h1 L1 es1 (ep + 1) t2 sb ⟨⟨_, ho1, ⟨hex.1, hex.2.1, hex.2.2⟩, rfl⟩, rows1, T2, nd1, keys1, ?_, by rw [len1]; exact few, by rw [e2]; exact R.led⟩ (fun z => absurd z hm) fun _ => pm)
        rw [full, decide_eq_true_eq] at hf
        rw [len1, m2]
        omega
    have ends : ∀ b : Bool, wpAny (model P w) A (do
          storeSet a es1 (if b = true then t1 else { t1 with plain := false })
          if (!false && (if b = true then t1 else { t1 with plain := false }).tooFull) = true then do
            setRelay a (SetTable.grown (es.size + 1))
            pure true
          else pure true) Q E s := fun b => by
      cases b with
      | true => exact rest t1 q3 q4 q5 Iff.rfl
      | false => exact rest { t1 with plain := false } (TabOk.plainly q3 false) q4 q5 Iff.rfl
    by_cases hp : t1.plain = true
    · refine wp_if_pos hp ?_
      exact wpAny_bind (key_hashBy k _ 8 s hx.1 hx.2 _ _ _ (ends (byVal k)))
    · refine wp_if_neg hp ?_
      exact wpAny_bind (wpAny_pure (ends true))
end
end Sn
namespace Sn
open PySem PyProof.Rows L2
def InSet (ks : List (Addr × NestedKey)) (i : Nat) (L : List (Addr × NestedKey)) : Prop := (∀ p ∈ L, p ∈ ks.take i) ∧ (∀ p ∈ ks.take i, p.2 ∈ L.map (·.2)) ∧ L.length ≤ i
theorem InSet.next {ks L L' : List (Addr × NestedKey)} {i : Nat} {x : Addr × NestedKey} (g : InSet ks i L) (h : ks[i]? = some x) (old : x.2 ∈ L.map (·.2) → L' = L) (new : x.2 ∉ L.map (·.2) → L'.Perm (x :: L)) : InSet ks (i + 1) L' := by
  have e : ks.take (i + 1) = ks.take i ++ [x] := by rw [List.take_succ, h]; rfl
  obtain ⟨g1, g2, g3⟩ := g
  by_cases c : x.2 ∈ L.map (·.2)
  · rw [old c]
    refine ⟨fun p hp => by rw [e]; exact List.mem_append_left _ (g1 p hp), fun p hp => ?_, by omega⟩
    rw [e] at hp
    rcases List.mem_append.mp hp with z | z
    · exact g2 p z
    · rw [List.mem_singleton.mp z]; exact c
  · have pm := new c
    refine ⟨fun p hp => ?_, fun p hp => ?_, by rw [pm.length_eq, List.length_cons]; omega⟩
    · rw [e]
      rcases List.mem_cons.mp (pm.mem_iff.mp hp) with z | z
      · rw [z]; exact List.mem_append_right _ (List.mem_singleton.mpr rfl)
      · exact List.mem_append_left _ (g1 p z)
    · rw [(pm.map (·.2)).mem_iff, List.map_cons]
      rw [e] at hp
      rcases List.mem_append.mp hp with z | z
      · exact List.mem_cons_of_mem _ (g2 p z)
      · rw [List.mem_singleton.mp z]; exact List.mem_cons_self
section
variable {P : Program} {w : World} {A : Around} {E : Value → Shared → Prop} {s : Shared}
theorem key_keep {h h' : Heap} {k : NestedKey} {b : Addr} (x : (nestedKind P w).is h k b) (hk : ∀ c o, h.get? c = some o → h'.get? c = some o) : (nestedKind P w).is h' k b :=
  ⟨NestedIs.at (fun c o _ _ e _ => hk c o e) k _ x.1, x.2⟩
theorem NSet.moved {h h' : Heap} {a : Addr} {L : List (Addr × NestedKey)} {es : Array (Int × Value)} {ep : Nat} {t : SetTable} (R : NSet P w h a L es ep t) (ha : ∀ o, h.get? a = some o → h'.get? a = some o) (ht : ∀ p ∈ L, (nestedKind P w).is h' p.2 p.1) : NSet P w h' a L es ep t := by
  obtain ⟨o, ho, r⟩ := R.here
  exact ⟨⟨o, ha o ho, r⟩, R.rows, R.tab, R.nodup, ht, R.room, R.few, R.led⟩
theorem NSet.void {h : Heap} {a : Addr} {b : Bool} (ho : h.get? a = some { cls := .type "set", dict := none, data := .set #[] 0 (.fresh 0 0 b) }) (hb : w.params.followText "set-order" = true ∨ b = true) : NSet P w h a [] #[] 0 (.fresh 0 0 b) where
  here := ⟨_, ho, ⟨rfl, rfl, rfl⟩, rfl⟩
  rows := rfl
  tab := ⟨List.Pairwise.nil, rfl, rfl, .inl rfl, fun x hx => (by cases hx), fun i h j hi => (by simp at hi)⟩
  nodup := List.nodup_nil
  keys := fun p hp => (by cases hp)
  room := by show 0 * 5 < 7 * 3; decide
  few := by show 0 < 64; decide
  led := hb
end
end Sn
namespace Sn
open PySem PyProof.Rows L2
section
variable {P : Program} {w : World} {A : Around} {E : Value → Shared → Prop} {s : Shared}
theorem fill {I : Addr} {fp wr : List Addr} {G : Array GenState → Array GenState → Prop} {n : Nat} {Pv : Nat → Value → Prop} {St : Nat → Shared → Prop} {R : Result → Shared → Prop}
    (W : WalksS P w A.in1 I fp wr G n Pv St) (S : Addr) (hS : S ∉ fp) (ks : List (Addr × NestedKey)) (hn : n = ks.length) (few : ks.length < 64) (val : ∀ i v, Pv i v → ∃ p, ks[i]? = some p ∧ v = .ref p.1)
    (h0 : Heap) (keys : ∀ p ∈ ks, (nestedKind P w).is h0 p.2 p.1) (none0 : h0.get? S = none) (nonew : ∀ b ∈ wr, h0.get? b = none) (hu : (nestedKind P w).room A.in1) :
    ∀ (k i : Nat) (s : Shared), n - i = k → i ≤ n → St i s → (∀ b o, h0.get? b = some o → s.heap.get? b = some o) → (∃ L es ep t, NSet P w s.heap S L es ep t ∧ InSet ks i L) →
      (∀ s' L es ep t, Moved (S :: wr) G s s' → NSet P w s'.heap S L es ep t → InSet ks n L → (∀ b o, h0.get? b = some o → s'.heap.get? b = some o) → R (.ok (.ret .none)) s') →
      codeAny (model P w) A (.builtin "set.update.loop" ⟨[.ref S, .ref I], []⟩) R s := by
  have hSw : S ∉ wr := fun h => hS (W.sub _ h)
  have up : ∀ b ∈ wr, b ∈ S :: wr := fun b hb => List.mem_cons_of_mem _ hb
  have stays : ∀ {s s' : Shared}, Moved wr G s s' → (∀ b o, h0.get? b = some o → s.heap.get? b = some o) → ∀ b o, h0.get? b = some o → s'.heap.get? b = some o := fun m q b o e =>
    m.heap b o (fun hb => by rw [nonew b hb] at e; cases e) (q b o e)
  have among : ∀ {i : Nat} {L : List (Addr × NestedKey)}, InSet ks i L → ∀ p ∈ L, p ∈ ks := fun g p hp => List.mem_of_mem_take (g.1 p hp)
  intro k
  induction k with
  | zero =>
    intro i s hk hi hst q ⟨L, es, ep, t, N, g⟩ hR
    have hin : i = n := by omega
    subst hin
    refine codeAny_builtin F.entry_set_update_loop ?_
    rw [Around.under_plainId F.plain_set_update_loop _]
    show wpAny _ A.in1 (pyNext (.ref I) >>= _) _ _ s
    refine wpAny_bind (W.done s _ _ hst fun s' m => ?_)
    show wpAny _ A.in1 (ret Value.none) _ _ s'
    exact wpAny_pure (hR s' L es ep t (m.mono up) (N.moved (fun o e => m.heap S o hSw e) fun p hp => key_keep (keys p (among g p hp)) (stays m q)) g (stays m q))
  | succ k ih =>
    intro i s hk hi hst q ⟨L, es, ep, t, N, g⟩ hR
    have lt : i < n := by omega
    refine codeAny_builtin F.entry_set_update_loop ?_
    rw [Around.under_plainId F.plain_set_update_loop _]
    show wpAny _ A.in1 (pyNext (.ref I) >>= _) _ _ s
    refine wpAny_bind (W.item i s _ _ lt hst fun v s' hv hst' m => ?_)
    obtain ⟨p, hp, rfl⟩ := val i v hv
    have q' := stays m q
    have N' : NSet P w s'.heap S L es ep t := N.moved (fun o e => m.heap S o hSw e) fun p hp => key_keep (keys p (among g p hp)) q'
    have hx : (nestedKind P w).is s'.heap p.2 p.1 := key_keep (keys p (List.mem_of_getElem? hp)) q'
    show wpAny _ A.in1 (holding [Value.ref p.1] (setAdd S (.ref p.1)) >>= _) _ _ s'
    refine wpAny_bind (wpAny_holding ?_)
    unfold setAdd
    refine wpAny_holding ?_
    refine wpAny_bind ((nestedKind P w).pyHash hu hx ?_)
    refine put_key (s := { s' with toks := s'.toks + (nestedKind P w).draws p.2 }) N' hx hu (by have := g.2.2; omega) fun b h' L' es' ep' t' sb N2 c1 c2 => ?_
    have g' : InSet ks (i + 1) L' := g.next hp c1 c2
    have q2 : ∀ b o, h0.get? b = some o → h'.get? b = some o := fun b o e => (sb.2 b (fun z => by rw [z, none0] at e; cases e)).trans (q' b o e)
    refine wpAny_pure ⟨plainId_quiet F.plain_set_update_loop _, ih (i + 1) _ (by omega) lt (W.frame _ s' _ _ hst' (Nat.le_add_right _ _) fun b hb o e => ?_) q2 ⟨L', es', ep', t', N2, g'⟩ fun s'' L2 es2 ep2 t2 m2 N3 g2 q3 => ?_⟩
    · rw [sb.2 b (fun h : b = S => hS (by rw [← h]; exact hb))]; exact e
    · refine hR s'' L2 es2 ep2 t2 (Moved.trans W.gtrans ((m.mono up).then_heap (Nat.le_add_right _ _) fun b o hb e => ?_) m2) N3 g2 q3
      rw [sb.2 b (fun h : b = S => hb (by rw [h]; exact List.mem_cons_self))]; exact e
end
end Sn
namespace Sn
open PySem PyProof.Rows L2
def fresh (w : World) : Obj := { cls := .type "set", dict := none, data := .set #[] 0 (.fresh 0 0 (!w.params.followText "set-order")) }
theorem beyond (h : Heap) {b : Addr} (hb : h.objs.size ≤ b) : h.get? b = none := by
  match q : h.get? b with
  | none => rfl
  | some u => exact absurd (Heap.lt_size q) (Nat.not_lt.mpr hb)
theorem item_key {items : Array Value} {ks : List (Addr × NestedKey)} (e : items.toList = ks.map fun p => Value.ref p.1) {i : Nat} {v : Value} (hv : items[i]? = some v) : ∃ p, ks[i]? = some p ∧ v = .ref p.1 := by
  rw [← Array.getElem?_toList, e, List.getElem?_map, Option.map_eq_some_iff] at hv
  obtain ⟨p, h1, h2⟩ := hv
  exact ⟨p, h1, h2.symm⟩
section
variable {P : Program} {w : World} {A : Around} {E : Value → Shared → Prop} {s : Shared}
def Full (P : Program) (w : World) (s : Shared) (ks : List (Addr × NestedKey)) (u : Shared) : Prop :=
  ∃ h' tk L es ep t, u = { s with heap := h', toks := tk } ∧ NSet P w h' s.heap.objs.size L es ep t ∧ InSet ks ks.length L ∧ (∀ b o, s.heap.get? b = some o → h'.get? b = some o)
theorem set_of {l : Addr} {items : Array Value} (ks : List (Addr × NestedKey)) {Q : Value → Shared → Prop} (free : A.handled = none) (isL : s.heap.IsList l items) (e : items.toList = ks.map fun p => Value.ref p.1)
    (keys : ∀ p ∈ ks, (nestedKind P w).is s.heap p.2 p.1) (few : ks.length < 64) (hu : A.units + 11 < cLine) (h : ∀ u, Full P w s ks u → Q (.ref s.heap.objs.size) u) :
    wpAny (model P w) A (call (.type "set") [.ref l]) Q E s := by
  have m : items.size = ks.length := by rw [← Array.length_toList, e, List.length_map]
  obtain ⟨_, _, mro⟩ := F.called_set.mro
  have f1 := F.called_set.made
  have f2 := F.called_set.sub
  have f3 := F.called_set.notType
  have f4 := F.called_set.canCreate
  have f5 := F.typeCall_set_1 (.ref l)
  refine wpAny_call (codeAny_of_tree (wpAny_pure ⟨Code.quiet_builtin _ (by decide +kernel), codeAny_builtin F.entry_type_call ?made⟩))
  case made =>
    rw [Around.under_plain (weight_type_call_type "set" [.ref l] []) rfl]
    repeat any_goals (first | assumption | wp_step)
    refine codeAny_mono (code_set_led1 (.ref l) (E := E) (Q₁ := fun v u => v = .ref s.heap.objs.size ∧ u = { s with heap := s.heap.push (fresh w) }) ⟨rfl, rfl⟩) fun r u made => ?_
    cases r with
    | error _ => exact made
    | ok flow =>
      cases flow <;> first | exact made.elim | skip
      obtain ⟨rfl, rfl⟩ := made
      have here : (s.heap.push (fresh w)).get? s.heap.objs.size = some (fresh w) := Heap.get?_push_size _ rfl
      have ty : Shared.TypeIs { s with heap := s.heap.push (fresh w) } (.ref s.heap.objs.size) "set" := ⟨_, here, rfl⟩
      have g1 := F.called_set.init.lookup
      have g2 := F.called_set.init.bind (.ref s.heap.objs.size)
      repeat any_goals (first | assumption | wp_step)
      refine codeAny_mono (codeAny_call_builtin (R := wants (fun r u => r = .none ∧ Full P w s ks u) E) F.called_set.init.plain F.entry_set_init (check_set_init_1 ty ?init)) fun r u ends => ?_
      case init =>
        obtain ⟨⟨_, od, _, osl⟩, at0, cl0, n0, da0⟩ := isL
        simp only at cl0 da0
        subst cl0 da0
        have at1 : (s.heap.push (fresh w)).get? l = some { cls := .type "list", dict := od, data := .seq items n0, slots := osl } := Heap.get?_push_of_some _ at0
        have is1 : (s.heap.push (fresh w)).IsList l items := ⟨_, at1, rfl, n0, rfl⟩
        have g3 := F.sub_list_set
        have g4 := F.sub_list_frozenset
        have g5 : (Value.type "list" == Value.type "dict") = false := rfl
        have low : l < s.heap.objs.size := Heap.lt_size at0
        have top : (s.heap.push (fresh w)).objs.size = s.heap.objs.size + 1 := Heap.size_push ..
        have far : l ≠ (s.heap.push (fresh w)).objs.size := by rw [top]; exact Nat.ne_of_lt (Nat.lt_succ_of_lt low)
        have apart : s.heap.objs.size ∉ [(s.heap.push (fresh w)).objs.size, l] := by
          rw [top, List.mem_cons, List.mem_singleton, not_or]
          exact ⟨Nat.ne_of_lt (Nat.lt_succ_self _), Nat.ne_of_gt low⟩
        unfold Builtin.«set.__init__» Builtin.Frozenset.updateFrom noKeywords
        generalize pyf : pyIter = f
        wp_walk
        subst pyf
        refine wpAny_pyIter_list is1 (wpAny_bind (wpAny_runValue ?loop))
        case loop =>
          refine fill ((Walks.list (by simp [free]) _ l far items).toS) s.heap.objs.size apart ks m few (fun _ _ => item_key e) s.heap keys (beyond _ (Nat.le_refl _))
            (fun b hb => beyond _ (by rw [List.mem_singleton.mp hb, top]; omega)) (by show _ + 8 < cLine; simp; omega) items.size 0 _ rfl (Nat.zero_le _) ⟨⟨_, Heap.get?_push_size _ rfl, rfl, rfl⟩, is1.push _⟩
            (fun b o q => Heap.get?_push_of_some _ (Heap.get?_push_of_some _ q)) ⟨[], #[], 0, _, NSet.void (Heap.get?_push_of_some _ here) (by cases w.params.followText "set-order" <;> simp), (fun p z => by cases z), (fun p z => by simp at z), Nat.le_refl _⟩ ?_
          rintro ⟨h', g', d', tk, os'⟩ L es ep t mv N g kept
          obtain rfl : g' = s.gens := mv.gens
          obtain rfl : d' = s.drawn := mv.drawn
          obtain rfl : os' = s.os := mv.os
          rw [m] at g
          refine wpAny_pure ?_
          show wpAny _ _ (ret Value.none) _ _ _
          exact wpAny_pure ⟨rfl, h', tk, L, es, ep, t, rfl, N, g, kept⟩
      cases r with
      | error _ => exact ends
      | ok flow =>
        cases flow <;> first | exact ends.elim | skip
        obtain ⟨rfl, full⟩ := ends
        repeat any_goals (first | assumption | wp_step)
        exact h _ full
end
end Sn
namespace Sn
open PySem PyProof.Rows L2
section
variable {P : Program} {w : World} {A : Around} {E : Value → Shared → Prop} {s : Shared}
theorem set_ofT {l : Addr} {items : Array Value} (ks : List (Addr × NestedKey)) {Q : Value → Shared → Prop} (free : A.handled = none) (isL : s.heap.IsTuple l items) (e : items.toList = ks.map fun p => Value.ref p.1)
    (keys : ∀ p ∈ ks, (nestedKind P w).is s.heap p.2 p.1) (few : ks.length < 64) (hu : A.units + 11 < cLine) (h : ∀ u, Full P w s ks u → Q (.ref s.heap.objs.size) u) :
    wpAny (model P w) A (call (.type "set") [.ref l]) Q E s := by
  have m : items.size = ks.length := by rw [← Array.length_toList, e, List.length_map]
  obtain ⟨_, _, mro⟩ := F.called_set.mro
  have f1 := F.called_set.made
  have f2 := F.called_set.sub
  have f3 := F.called_set.notType
  have f4 := F.called_set.canCreate
  have f5 := F.typeCall_set_1 (.ref l)
  refine wpAny_call (codeAny_of_tree (wpAny_pure ⟨Code.quiet_builtin _ (by decide +kernel), codeAny_builtin F.entry_type_call ?made⟩))
  case made =>
    rw [Around.under_plain (weight_type_call_type "set" [.ref l] []) rfl]
    repeat any_goals (first | assumption | wp_step)
    refine codeAny_mono (code_set_led1 (.ref l) (E := E) (Q₁ := fun v u => v = .ref s.heap.objs.size ∧ u = { s with heap := s.heap.push (fresh w) }) ⟨rfl, rfl⟩) fun r u made => ?_
    cases r with
    | error _ => exact made
    | ok flow =>
      cases flow <;> first | exact made.elim | skip
      obtain ⟨rfl, rfl⟩ := made
      have here : (s.heap.push (fresh w)).get? s.heap.objs.size = some (fresh w) := Heap.get?_push_size _ rfl
      have ty : Shared.TypeIs { s with heap := s.heap.push (fresh w) } (.ref s.heap.objs.size) "set" := ⟨_, here, rfl⟩
      have g1 := F.called_set.init.lookup
      have g2 := F.called_set.init.bind (.ref s.heap.objs.size)
      repeat any_goals (first | assumption | wp_step)
      refine codeAny_mono (codeAny_call_builtin (R := wants (fun r u => r = .none ∧ Full P w s ks u) E) F.called_set.init.plain F.entry_set_init (check_set_init_1 ty ?init)) fun r u ends => ?_
      case init =>
        obtain ⟨⟨_, od, _, osl⟩, at0, cl0, n0, da0⟩ := isL
        simp only at cl0 da0
        subst cl0 da0
        have at1 : (s.heap.push (fresh w)).get? l = some { cls := .type "tuple", dict := od, data := .seq items n0, slots := osl } := Heap.get?_push_of_some _ at0
        have is1 : (s.heap.push (fresh w)).IsTuple l items := ⟨_, at1, rfl, n0, rfl⟩
        have g3 := F.sub_tuple_set
        have g4 := F.sub_tuple_frozenset
        have g5 : (Value.type "tuple" == Value.type "dict") = false := rfl
        have low : l < s.heap.objs.size := Heap.lt_size at0
        have top : (s.heap.push (fresh w)).objs.size = s.heap.objs.size + 1 := Heap.size_push ..
        have far : l ≠ (s.heap.push (fresh w)).objs.size := by rw [top]; exact Nat.ne_of_lt (Nat.lt_succ_of_lt low)
        have apart : s.heap.objs.size ∉ [(s.heap.push (fresh w)).objs.size, l] := by
          rw [top, List.mem_cons, List.mem_singleton, not_or]
          exact ⟨Nat.ne_of_lt (Nat.lt_succ_self _), Nat.ne_of_gt low⟩
        unfold Builtin.«set.__init__» Builtin.Frozenset.updateFrom noKeywords
        generalize pyf : pyIter = f
        wp_walk
        subst pyf
        refine wpAny_pyIter_tuple is1 (wpAny_bind (wpAny_runValue ?loop))
        case loop =>
          refine fill ((Walks.tuple (by simp [free]) _ l far items).toS) s.heap.objs.size apart ks m few (fun _ _ => item_key e) s.heap keys (beyond _ (Nat.le_refl _))
            (fun b hb => beyond _ (by rw [List.mem_singleton.mp hb, top]; omega)) (by show _ + 8 < cLine; simp; omega) items.size 0 _ rfl (Nat.zero_le _) ⟨⟨_, Heap.get?_push_size _ rfl, rfl, rfl⟩, is1.at fun o e => Heap.get?_push_of_some _ e⟩
            (fun b o q => Heap.get?_push_of_some _ (Heap.get?_push_of_some _ q)) ⟨[], #[], 0, _, NSet.void (Heap.get?_push_of_some _ here) (by cases w.params.followText "set-order" <;> simp), (fun p z => by cases z), (fun p z => by simp at z), Nat.le_refl _⟩ ?_
          rintro ⟨h', g', d', tk, os'⟩ L es ep t mv N g kept
          obtain rfl : g' = s.gens := mv.gens
          obtain rfl : d' = s.drawn := mv.drawn
          obtain rfl : os' = s.os := mv.os
          rw [m] at g
          refine wpAny_pure ?_
          show wpAny _ _ (ret Value.none) _ _ _
          exact wpAny_pure ⟨rfl, h', tk, L, es, ep, t, rfl, N, g, kept⟩
      cases r with
      | error _ => exact ends
      | ok flow =>
        cases flow <;> first | exact ends.elim | skip
        obtain ⟨rfl, full⟩ := ends
        repeat any_goals (first | assumption | wp_step)
        exact h _ full
end
end Sn
namespace Eg
open PySem L2 PySem.W PySem.SeqAt PySem.Spec PyProof.Rows
open Sn (NSet)
structure NObj (w : World) (a : Addr) (L : List (Addr × NestedKey)) (h : Heap) : Prop where
  ex : ∃ (es : Array (Int × Value)) (ep : Nat) (t : SetTable), (∃ o, h.get? a = some o ∧ o.ExactSet ∧ o.data = .set es ep t) ∧ (es.toList = L.map fun p => (p.2.hash w, Value.ref p.1)) ∧ TabOk t (L.map fun p => p.2.hash w) ∧ L.length * 5 < t.mask * 3 ∧ (w.params.followText "set-order" = true ∨ t.led = true)
  nodup : (L.map (·.2)).Nodup
  few : L.length < 64
def NO (w : World) (a : Addr) (L : List (Addr × NestedKey)) : HO := .ext (NObj w a L)
theorem no_new {P : Program} {w : World} {H : Hp} {h : Heap} {a : Addr} {L : List (Addr × NestedKey)} {es : Array (Int × Value)} {ep : Nat} {t : SetTable} (R : NSet P w h a L es ep t) : ObjOk P w H h a (NO w a L) := by
  obtain ⟨o, ho, r⟩ := R.here
  refine ⟨⟨⟨es, ep, t, R.here, R.rows, R.tab, R.room, R.led⟩, R.nodup, R.few⟩, ⟨o, ho⟩, fun h1 h2 p k => ?_⟩
  obtain ⟨⟨es, ep, t, ⟨o, ho, r⟩, q⟩, n1, n2⟩ := p
  exact ⟨⟨es, ep, t, ⟨o, k o ho, r⟩, q⟩, n1, n2⟩
theorem no_full {P : Program} {w : World} {h : Heap} {a : Addr} {L : List (Addr × NestedKey)} (R : NObj w a L h) (keys : ∀ p ∈ L, (nestedKind P w).is h p.2 p.1) : ∃ es ep t, NSet P w h a L es ep t := by
  obtain ⟨⟨es, ep, t, h1, h2, h3, h4, h5⟩, n1, n2⟩ := R
  exact ⟨es, ep, t, h1, h2, h3, n1, keys, h4, n2, h5⟩
inductive KA (K : Kw) (F : Hp) : List (Addr × NestedKey) → List PyData → Prop
  | nil : KA K F [] []
  | cons {a : Addr} {d : PyData} {ks : List (Addr × NestedKey)} {ds : List PyData} : keyT d = true → DV K F (.ref a) d → KA K F ks ds → KA K F ((a, nk d) :: ks) (d :: ds)
theorem KA.of {K : Kw} {F : Hp} : ∀ {vs : List V} {ds : List PyData}, DVs K F vs ds → (∀ d ∈ ds, keyT d = true) → ∃ ks, KA K F ks ds ∧ vs = ks.map fun p => V.ref p.1
  | _, _, .nil, _ => ⟨[], .nil, rfl⟩
  | _, _, .cons (d := d) h t, k => by
    obtain ⟨a, rfl⟩ := dv_tup h (k d List.mem_cons_self)
    obtain ⟨ks, r, e⟩ := KA.of t fun d hd => k d (List.mem_cons_of_mem _ hd)
    exact ⟨(a, nk d) :: ks, .cons (k d List.mem_cons_self) h r, by rw [List.map_cons, e]⟩
theorem KA.len {K : Kw} {F : Hp} : ∀ {ks : List (Addr × NestedKey)} {ds : List PyData}, KA K F ks ds → ks.length = ds.length
  | _, _, .nil => rfl
  | _, _, .cons _ _ t => by rw [List.length_cons, List.length_cons, KA.len t]
theorem KA.mem {K : Kw} {F : Hp} : ∀ {ks : List (Addr × NestedKey)} {ds : List PyData}, KA K F ks ds → ∀ p ∈ ks, ∃ d ∈ ds, keyT d = true ∧ p.2 = nk d ∧ DV K F (.ref p.1) d
  | _, _, .nil, p, hp => nomatch hp
  | _, _, .cons (d := d) h1 h2 t, p, hp => by
    rcases List.mem_cons.mp hp with e | hp
    · rw [e]; exact ⟨d, List.mem_cons_self, h1, rfl, h2⟩
    · obtain ⟨d, hd, r⟩ := KA.mem t p hp
      exact ⟨d, List.mem_cons_of_mem _ hd, r⟩
theorem KA.mem' {K : Kw} {F : Hp} : ∀ {ks : List (Addr × NestedKey)} {ds : List PyData}, KA K F ks ds → ∀ d ∈ ds, ∃ p ∈ ks, p.2 = nk d
  | _, _, .nil, d, hd => nomatch hd
  | _, _, .cons (a := a) (d := e) h1 h2 t, d, hd => by
    rcases List.mem_cons.mp hd with z | hd
    · rw [z]; exact ⟨(a, nk e), List.mem_cons_self, rfl⟩
    · obtain ⟨p, hp, r⟩ := KA.mem' t d hd
      exact ⟨p, List.mem_cons_of_mem _ hp, r⟩
def once : List PyData → List PyData
  | [] => []
  | d :: ds => d :: (once ds).filter fun e => !decide (nk e = nk d)
theorem once_mem : ∀ {ds : List PyData} {d : PyData}, d ∈ once ds → d ∈ ds
  | [], _, h => h
  | x :: ds, d, h => by
    rcases List.mem_cons.mp h with e | h
    · exact List.mem_cons.mpr (.inl e)
    · exact List.mem_cons_of_mem _ (once_mem (List.mem_filter.mp h).1)
theorem once_all : ∀ {ds : List PyData} {d : PyData}, d ∈ ds → ∃ e ∈ once ds, nk e = nk d
  | x :: ds, d, h => by
    by_cases q : nk x = nk d
    · exact ⟨x, List.mem_cons_self, q⟩
    · rcases List.mem_cons.mp h with e | h
      · exact absurd (by rw [e]) q
      · obtain ⟨e, he, k⟩ := once_all h
        exact ⟨e, List.mem_cons_of_mem _ (List.mem_filter.mpr ⟨he, by simpa using fun z => q (z.symm.trans k)⟩), k⟩
theorem once_nodup : ∀ ds : List PyData, ((once ds).map nk).Nodup
  | [] => List.nodup_nil
  | d :: ds => by
    rw [once, List.map_cons, List.nodup_cons]
    refine ⟨fun h => ?_, ?_⟩
    · obtain ⟨e, he, q⟩ := List.mem_map.mp h
      simpa [q] using (List.mem_filter.mp he).2
    · exact List.Nodup.sublist (List.Sublist.map nk List.filter_sublist) (once_nodup ds)
theorem vals_refs' : ∀ {ks : List (Addr × NestedKey)} {us : List Value}, Vals (ks.map fun p => V.ref p.1) us → us = ks.map fun p => Value.ref p.1
  | [], _, .nil => rfl
  | p :: ks, _, .cons r t => by
    cases r
    rw [vals_refs' t]
    rfl
theorem le_both {d e : PyData} (h1 : dataLe false id d e = true) (h2 : dataLe false id e d = true) : keyToks d = keyToks e := by
  have a : (!dataLt e d) = true := h1
  have b : (!dataLt d e) = true := h2
  simp only [Bool.not_eq_true'] at a b
  exact (PyProof.Rows.listOrd PyProof.Rows.itemOrd).total _ _ b a
mutual
theorem toks_inj : ∀ (x y : PyData) (l m : List (Int ⊕ List Nat)), alike x y = true → keyB x = true → keyB y = true → keyToks x ++ l = keyToks y ++ m → x = y ∧ l = m
  | .none, y, l, m, h, hx, hy, e => by cases y <;> simp [alike] at h; exact ⟨rfl, by simpa [keyToks] using e⟩
  | .int i, y, l, m, h, hx, hy, e => by
    cases y <;> simp [alike] at h
    simp only [keyToks, List.cons_append, List.nil_append, List.cons.injEq, Sum.inl.injEq] at e
    exact ⟨by rw [e.1], e.2⟩
  | .str i, y, l, m, h, hx, hy, e => by
    cases y <;> simp [alike] at h
    simp only [keyToks, List.cons_append, List.nil_append, List.cons.injEq, Sum.inr.injEq] at e
    exact ⟨by rw [str_of_cps e.1], e.2⟩
  | .tuple xs, y, l, m, h, hx, hy, e => by
    cases y <;> simp [alike] at h
    rw [keyB] at hx hy
    simp only [keyToks] at e
    obtain ⟨a, b⟩ := toksAll_inj xs _ l m h hx hy e
    exact ⟨by rw [a], b⟩
  | .bool _, _, _, _, _, hx, _, _ => by simp [keyB] at hx
  | .list _, _, _, _, _, hx, _, _ => by simp [keyB] at hx
  | .dict _, _, _, _, _, hx, _, _ => by simp [keyB] at hx
theorem toksAll_inj : ∀ (xs ys : List PyData) (l m : List (Int ⊕ List Nat)), alikeAll xs ys = true → keyBs xs = true → keyBs ys = true → keyToksAll xs ++ l = keyToksAll ys ++ m → xs = ys ∧ l = m
  | [], ys, l, m, h, hx, hy, e => by
    cases ys with
    | nil => exact ⟨rfl, by simpa [keyToksAll] using e⟩
    | cons y ys => simp [keyToksAll] at e
  | x :: xs, ys, l, m, h, hx, hy, e => by
    cases ys with
    | nil => simp [keyToksAll] at e
    | cons y ys =>
      rw [keyBs, Bool.and_eq_true] at hx hy
      obtain ⟨h1, h2⟩ := alike_all_cons h
      rw [toks_all_cons, toks_all_cons, List.cons_append, List.cons_append, List.append_assoc, List.append_assoc] at e
      obtain ⟨a, b⟩ := toks_inj x y _ _ h1 hx.1 hy.1 (List.cons.inj e).2
      obtain ⟨c, d⟩ := toksAll_inj xs ys l m h2 hx.2 hy.2 b
      exact ⟨by rw [a, c], d⟩
end
open List in
theorem sort_perm {ds es : List PyData} (p : ds ~ es) (al : ∀ d ∈ ds, ∀ e ∈ ds, alike d e = true) (kb : ∀ d ∈ ds, keyB d = true) : sortD ds = sortD es := by
  have tot : TotalLe (dataLe false id) := show TotalLe (sortLe (PyProof.Rows.listOrd PyProof.Rows.itemOrd) false fun b : PyData => keyToks (id b)) from sortLe_total _ _ _
  refine List.Perm.eq_of_pairwise (le := fun a b => dataLe false id a b = true) (fun a b ha hb h1 h2 => ?_) (sort_pairwise tot _) (sort_pairwise tot _) (((List.mergeSort_perm _ _).trans p).trans (List.mergeSort_perm _ _).symm)
  have ha' : a ∈ ds := (List.mem_mergeSort).mp ha
  have hb' : b ∈ ds := p.symm.mem_iff.mp ((List.mem_mergeSort).mp hb)
  have e := le_both h1 h2
  exact (toks_inj a b [] [] (al a ha' b hb') (kb a ha') (kb b hb') (by rw [e])).1
open List in
theorem perm_map {α β : Type} {f : α → β} : ∀ {vs us : List β}, vs ~ us → ∀ {L : List α}, us = L.map f → ∃ L', L' ~ L ∧ vs = L'.map f := by
  intro vs us p
  induction p with
  | nil => intro L e; exact ⟨L, .refl _, e⟩
  | @cons x l1 l2 p ih =>
    intro L e
    cases L with
    | nil => cases e
    | cons y L =>
      rw [List.map_cons] at e
      obtain ⟨e1, e2⟩ := List.cons.inj e
      obtain ⟨L', q, r⟩ := ih e2
      exact ⟨y :: L', q.cons y, by rw [List.map_cons, ← e1, r]⟩
  | swap x y l =>
    intro L e
    match L, e with
    | a :: b :: L, e =>
      rw [List.map_cons, List.map_cons] at e
      obtain ⟨e1, e2⟩ := List.cons.inj e
      obtain ⟨e2, e3⟩ := List.cons.inj e2
      exact ⟨b :: a :: L, .swap _ _ _, by rw [List.map_cons, List.map_cons, ← e1, ← e2, e3]⟩
  | trans _ _ i1 i2 =>
    intro L e
    obtain ⟨L2, q2, r2⟩ := i2 e
    obtain ⟨L1, q1, r1⟩ := i1 r2
    exact ⟨L1, q1.trans q2, r1⟩
theorem KA.each {K : Kw} {F : Hp} : ∀ {ks : List (Addr × NestedKey)} {ds : List PyData}, KA K F ks ds → EachIs (IsD' K F) (ks.map fun p => Value.ref p.1) ds ∧ ks.map (·.2) = ds.map nk
  | _, _, .nil => ⟨.nil, rfl⟩
  | _, _, .cons (a := a) _ h t => ⟨.cons ⟨.ref a, rfl, h⟩ (KA.each t).1, by rw [List.map_cons, List.map_cons, (KA.each t).2]⟩
theorem KA.sub {K : Kw} {F : Hp} {ds : List PyData} : ∀ {L : List (Addr × NestedKey)}, (∀ p ∈ L, ∃ d ∈ ds, keyT d = true ∧ p.2 = nk d ∧ DV K F (.ref p.1) d) → ∃ es, KA K F L es ∧ ∀ e ∈ es, e ∈ ds
  | [], _ => ⟨[], .nil, fun _ h => nomatch h⟩
  | (a, n) :: L, h => by
    obtain ⟨d, hd, k, e, r⟩ := h _ List.mem_cons_self
    obtain ⟨es, q, m⟩ := KA.sub fun p hp => h p (List.mem_cons_of_mem _ hp)
    have e : n = nk d := e
    subst e
    exact ⟨d :: es, .cons k r q, fun x hx => by
      rcases List.mem_cons.mp hx with z | hx
      · rw [z]; exact hd
      · exact m x hx⟩
theorem nodup_of_map {α β : Type} {f : α → β} {l : List α} (h : (l.map f).Nodup) : l.Nodup := by
  rw [List.nodup_iff_pairwise_ne, List.pairwise_map] at h
  exact List.nodup_iff_pairwise_ne.mpr (h.imp fun q z => q (by rw [z]))
open List in
theorem set_members {K : Kw} {F : Hp} {ds : List PyData} {L : List (Addr × NestedKey)} {vs : List Value} (kt : ∀ d ∈ ds, keyT d = true) (h1 : ∀ p ∈ L, ∃ d ∈ ds, keyT d = true ∧ p.2 = nk d ∧ DV K F (.ref p.1) d) (h2 : ∀ d ∈ ds, ∃ p ∈ L, p.2 = nk d) (nd : (L.map (·.2)).Nodup)
    (pm : vs ~ L.map fun p => Value.ref p.1) : ∃ es, EachIs (IsD' K F) vs es ∧ es ~ once ds ∧ ∀ e ∈ es, e ∈ ds := by
  obtain ⟨L', q, rfl⟩ := perm_map pm rfl
  obtain ⟨es, ka, mem⟩ := KA.sub (L := L') fun p hp => h1 p (q.mem_iff.mp hp)
  obtain ⟨e1, e2⟩ := ka.each
  have kb : ∀ d ∈ ds, keyB d = true := fun d hd => (keyT_at (kt d hd)).1
  refine ⟨es, e1, (List.perm_ext_iff_of_nodup (nodup_of_map (f := nk) ?_) (nodup_of_map (once_nodup ds))).mpr fun d => ⟨fun hd => ?_, fun hd => ?_⟩, mem⟩
  · rw [← e2]
    exact ((q.map (·.2)).nodup_iff).mpr nd
  · obtain ⟨e, he, z⟩ := once_all (mem d hd)
    rw [nk_inj e d (kb e (once_mem he)) (kb d (mem d hd)) z] at he
    exact he
  · have hd' := once_mem hd
    obtain ⟨p, hp, z⟩ := h2 d hd'
    have : nk d ∈ es.map nk := by
      rw [← e2]
      exact List.mem_map.mpr ⟨p, q.mem_iff.mpr hp, z⟩
    obtain ⟨e, he, z⟩ := List.mem_map.mp this
    rw [nk_inj e d (kb e (mem e he)) (kb d hd') z] at he
    exact he
def gKeys : List PyData → Option (List PyData)
  | [.list ds] => if ds.all keyT = true ∧ ds.length < 64 then some ds else none
  | [.tuple ds] => if ds.all keyT = true ∧ ds.length < 64 then some ds else none
  | _ => none
theorem sortOk_sub {ds es : List PyData} (h : sortOk ds = true) (m : ∀ e ∈ es, e ∈ ds) (l : es.length ≤ sizeLine) : sortOk es = true := by
  unfold sortOk alikeB at h ⊢
  simp only [Bool.and_eq_true, Bool.or_eq_true, List.all_eq_true, decide_eq_true_eq] at h ⊢
  obtain ⟨⟨⟨h1, h2⟩, h3⟩, h4⟩ := h
  exact ⟨⟨⟨fun d hd e he => h1 d (m d hd) e (m e he), h2.imp (fun z d hd => z d (m d hd)) fun z d hd => z d (m d hd)⟩, fun d hd => h3 d (m d hd)⟩, l⟩
def rSet (K : Kw) : RRel (List PyData) := fun F' H' _ _ _ _ v ds => ∃ a L, v = .ref a ∧ H' a = some (NO K.w a L) ∧ (∀ d ∈ ds, keyT d = true) ∧ (∀ p ∈ L, ∃ d ∈ ds, keyT d = true ∧ p.2 = nk d ∧ DV K F' (.ref p.1) d) ∧ (∀ d ∈ ds, ∃ p ∈ L, p.2 = nk d)
theorem stb_Set {K : Kw} : Stb (rSet K) := fun _ _ _ _ _ _ _ _ _ _ _ _ _ r => r
def tSet [Tbs] (C : Ct) (m : M (List PyData)) : TE := fun σ H Q => ∃ F ρ, SR C.K F H σ ρ ∧ PostE C (rSet C.K) σ ρ F H Q (m ρ)
section
variable {X : Cx} {C : Ct} {e : Expr} {pos p pos2 p2 : Pos}
theorem k_set [Tbs] {x : Str} {ms : M (List Arg)} (hc : X.calm = true) (hu : X.A.units + 64 < cLine) (hg : Gl X x) (hm : X.mg x = none) (hv : bootBuiltins x = some (.type "set")) (ha : PA X [e] (tL C ms)) (hn : x ≠ "__name__" := by decide) (hdb : (x == ("__debug__" : Str)) = false := by decide)
    (he : starEach [e] X.env = (false, eval e X.env) :: starEach [] X.env := by rfl) (hpl : (backTo pos (starEach [] X.env)).any (·.1) = false := by rfl) (hK : X.KW = C.K := by rfl) : PE X (.Call (.Name x p) [e] [] pos) (tSet C (mL gKeys ms)) := by
  refine ⟨fun pins s σ H Q I ⟨F, ρ, sr, pp⟩ => ?_⟩
  refine wpAny_Call_Name_kw (ld_blt I hg hm hv ?_ hn hdb)
  refine PyProof.Rows.callWith_type1 (thn (ha.run pos pins s σ H (fun xs H2 => ∃ ds d ρ2 F2, SR C.K F2 H2 σ ρ2 ∧ Vws C.K F2 H2 xs ds ∧ gKeys ds = some d ∧ PostE C (rSet C.K) σ ρ2 F2 H2 Q (.ok d ρ2)) I (many sr stb_Set pp fun xs ds d ρ2 F2 H2 s2 vw e q => ⟨ds, d, ρ2, F2, s2, vw, e, q⟩))
    fun us s1 ⟨vs, H1, I1, r1, ds, d, ρ2, F2, s2, vw, eg, q⟩ => ?_) he hpl
  have hw : X.w = C.K.w := congrArg Kw.w hK
  cases vw with
  | nil => cases eg
  | cons h t =>
    cases t with
    | cons _ _ => rename_i d _ _ _ _ _ _; cases d <;> cases eg
    | nil =>
      rename_i x d0
      obtain ⟨u, rfl, ru⟩ := vals1 r1
      have core : ∀ (es : List PyData) (ws : List V) (ks : List (Addr × NestedKey)) (its : List Value), es.all keyT = true → es.length < 64 → d = es → KA C.K F2 ks es → its = (ks.map fun p => Value.ref p.1) →
          (∀ p ∈ ks, (nestedKind X.prog X.w).is s1.heap p.2 p.1) ∧ ks.length < 64 ∧ ∀ u, Sn.Full X.prog X.w s1 ks u → EP X pins σ Q (.ref s1.heap.objs.size) u := fun es ws ks its kt few ed ka _ => by
        subst ed
        have kt := List.all_eq_true.mp kt
        refine ⟨fun p hp => ?_, by rw [ka.len]; exact few, fun u ⟨h', tk, L, es', ep, t, eu, N, g, keep⟩ => ?_⟩
        · obtain ⟨d, hd, k, e2, dv⟩ := ka.mem p hp
          rw [e2]
          obtain ⟨kb, kd, _⟩ := keyT_at k
          exact key_at I1 (hK ▸ DV.mono s2.sub dv) kb kd
        · subst eu
          have hn : H1 s1.heap.objs.size = none := I1.hok.fresh (Nat.le_refl _)
          refine ⟨.ref s1.heap.objs.size, _, I1.laid (t' := tk) (o := NO X.w s1.heap.objs.size L) keep (Nat.le_refl _) (no_new N), rfl, ?_⟩
          rw [hw]
          refine q F2 _ _ (Grow.fresh hn) (s2.fresh hn) ⟨_, L, rfl, upd_same, kt, fun p hp => ?_, fun d hd => ?_⟩
          · exact ka.mem p (List.mem_of_mem_take (g.1 p hp))
          · obtain ⟨p, hp, e2⟩ := ka.mem' d hd
            obtain ⟨p', hp', e3⟩ := List.mem_map.mp (g.2.1 p (by rw [List.take_length]; exact hp))
            exact ⟨p', hp', e3.trans e2⟩
      cases d0 with
      | list es =>
        simp only [gKeys] at eg
        split at eg <;> try cases eg
        rename_i cond
        obtain ⟨b, ws, rfl, h1, h2⟩ := h
        cases ru
        obtain ⟨its, rv, pl, _⟩ := I1.list (SqL.of h1)
        obtain ⟨ks, ka, ew⟩ := KA.of h2 (List.all_eq_true.mp cond.1)
        subst ew
        obtain ⟨c1, c2, c3⟩ := core d [] ks (ks.map fun p => Value.ref p.1) cond.1 cond.2 rfl ka rfl
        have ei : its = ks.map fun p => Value.ref p.1 := vals_refs' rv
        exact Sn.set_of ks (I1.ok.hd hc) pl.isList (by simpa using ei) c1 c2 (by omega) c3
      | tuple es =>
        simp only [gKeys] at eg
        split at eg <;> try cases eg
        rename_i cond
        have h' : DV C.K F2 x (.tuple d) := h
        cases h' with
        | tup h1 h2 =>
          cases ru
          rw [← hK] at s2
          obtain ⟨its, rv, pl, _⟩ := I1.tuple (s2.sub.sqT (hK ▸ h1))
          obtain ⟨ks, ka, ew⟩ := KA.of h2 (List.all_eq_true.mp cond.1)
          subst ew
          obtain ⟨c1, c2, c3⟩ := core d [] ks (ks.map fun p => Value.ref p.1) cond.1 cond.2 rfl ka rfl
          have ei : its = ks.map fun p => Value.ref p.1 := vals_refs' rv
          exact Sn.set_ofT ks (I1.ok.hd hc) (ei ▸ pl) (by simp) c1 c2 (by omega) c3
      | _ => cases eg
end
end Eg
namespace Eg
open PySem L2 PySem.W PySem.SeqAt PySem.Spec PyProof.Rows
theorem u9 {n : Nat} (h : n + 64 < cLine) : n + 9 < cLine := by omega
theorem b_set : bootBuiltins "set" = some (.type "set") := by decide +kernel
def gOnce (ds : List PyData) : Option OD := if sortOk ds = true then some (.ol (sortD (once ds))) else none
def mSSet (ms : M (List Arg)) : M OD := (mL gKeys ms).bind fun ds => M.lift (gOnce ds)
section
variable [Tbs] {X : Cx} {C : Ct} {e : Expr} {pos p pos2 p2 : Pos}
theorem coll_set {pins : List (Addr × Obj)} {σ : L2.St} {F H : Hp} {s : Shared} {a : Addr} {L : List (Addr × NestedKey)} {ds : List PyData} (hc : X.calm = true) (I : Inv X pins σ H s) (sub : Same F H) (hH : H a = some (NO X.w a L)) (kt : ∀ d ∈ ds, keyT d = true)
    (h1 : ∀ p ∈ L, ∃ d ∈ ds, keyT d = true ∧ p.2 = nk d ∧ DV X.KW F (.ref p.1) d) (h2 : ∀ d ∈ ds, ∃ p ∈ L, p.2 = nk d) (ok : sortOk ds = true) (E : Value → Shared → Prop) (R : List Value → Shared → Prop)
    (k : ∀ vs s1, (Kept s s1 ∧ ∃ es, EachIs (IsD' X.KW F) vs es ∧ sortOk es = true ∧ sortD es = sortD (once ds)) → R vs s1) : wpAny (model X.prog X.w) X.A.in1 (collect (.ref a)) R E s := by
  have ob : NObj X.w a L s.heap := (I.hok a _ hH).1
  obtain ⟨es, ep, t, N⟩ := no_full (P := X.prog) ob fun p hp => by
    obtain ⟨d, _, kd, e, dv⟩ := h1 p hp
    obtain ⟨kb, kd, _⟩ := keyT_at kd
    rw [e]
    exact key_at I (DV.mono sub dv) kb kd
  obtain ⟨o, ho, hex, hd⟩ := N.here
  have few := N.few
  have size := N.size
  refine collect_set (A := X.A.in1) (I.ok.hd hc) ⟨o, ho, hex.1, hd⟩ N.fits (by unfold scanBound; omega) N.tab.ris N.led fun s1 vs k1 hz g1 o1 pm => k vs s1 ⟨⟨k1, g1, o1, hz⟩, ?_⟩
  rw [show es.toList.map (·.2) = L.map fun p => Value.ref p.1 by rw [N.rows, List.map_map]; rfl] at pm
  obtain ⟨ws, e1, e2, e3⟩ := set_members kt h1 h2 N.nodup pm
  have sz : ws.length ≤ sizeLine := by
    rw [← e1.length, pm.length_eq, List.length_map, sizeLine_eq]
    omega
  obtain ⟨al, _⟩ := sortOk_at ok
  exact ⟨ws, e1, sortOk_sub ok e3 sz, sort_perm e2 (fun d hd e he => al d (e3 d hd) e (e3 e he)) fun d hd => (keyT_at (kt d (e3 d hd))).1⟩
theorem o_sset {ms : M (List Arg)} (hc : X.calm = true) (hu : X.A.units + 64 < cLine) (hg : Gl X "sorted") (hm : X.mg "sorted" = none) (hg2 : Gl X "set") (hm2 : X.mg "set" = none) (ha : PA X [e] (tL C ms))
    (he : starEach [e] X.env = (false, eval e X.env) :: starEach [] X.env := by rfl) (he2 : starEach [.Call (.Name "set" p2) [e] [] pos2] X.env = (false, eval (.Call (.Name "set" p2) [e] [] pos2) X.env) :: starEach [] X.env := by rfl) (hpl : (backTo pos (starEach [] X.env)).any (·.1) = false := by rfl) (hK : X.KW = C.K := by rfl) :
    PE X (.Call (.Name "sorted" p) [.Call (.Name "set" p2) [e] [] pos2] [] pos) (tO C (mSSet ms)) := by
  have inner := k_set (p := p2) (pos := pos2) hc hu hg2 hm2 b_set ha (by decide) (by decide) he rfl hK
  refine ⟨fun pins s σ H Q I ⟨F, ρ, sr, pp⟩ => ?_⟩
  refine wpAny_Call_Name_kw (ld_blt I hg hm b_sorted ?_ (by decide) (by decide))
  have go : tSet C (mL gKeys ms) σ H fun v H1 => ∃ ds o F1 ρ1, SR C.K F1 H1 σ ρ1 ∧ rSet C.K F1 H1 σ ρ1 ρ H v ds ∧ gOnce ds = some o ∧ PostE C (rO C.K) σ ρ1 F1 H1 Q (.ok o ρ1) :=
    ⟨F, ρ, sr, pp.part fun ds ρ1 F1 H1 v e1 q1 g1 s1 r1 => by
      have q1 := q1.on stb_O g1
      obtain ⟨o, eo, q⟩ := lift_some q1
      exact ⟨ds, o, F1, ρ1, s1, r1, eo, q⟩⟩
  refine PyProof.Rows.callWith_builtin1 (thn ((pa_cons inner pa_nil he2).run pos pins s σ H (fun xs H2 => ∃ v, xs = [v] ∧ ∃ ds o F1 ρ1, SR C.K F1 H2 σ ρ1 ∧ rSet C.K F1 H2 σ ρ1 ρ H v ds ∧ gOnce ds = some o ∧ PostE C (rO C.K) σ ρ1 F1 H2 Q (.ok o ρ1)) I ?_) fun us s1 ⟨xs, H1, I1, r1, v, ex, ds, o, F1, ρ1, s1', rs, eo, q⟩ => ?_) he2 hpl
  · obtain ⟨F0, ρ0, sr0, p0⟩ := go
    exact ⟨F0, ρ0, sr0, by
      cases em : mL gKeys ms ρ0 with
      | ok a ρ' => rw [em] at p0; exact fun F' H' v g s r => ⟨v, rfl, p0 F' H' v g s r⟩
      | ex x ρ' => rw [em] at p0; exact p0
      | bad => rw [em] at p0; exact p0⟩
  · subst ex
    obtain ⟨u, rfl, ru⟩ := vals1 r1
    obtain ⟨a, L, rfl, hH, kt, h1, h2⟩ := rs
    cases ru
    unfold gOnce at eo
    split at eo <;> cases eo
    rename_i ok
    have sub := s1'.sub
    have hw : X.w = C.K.w := congrArg Kw.w hK
    rw [← hw] at hH
    rw [← hK] at h1
    refine sorted_dat I1 sub hu (fun E R k => coll_set hc I1 sub hH kt h1 h2 ok E R k) fun b ws hb dv => ?_
    exact Alloc.post (F' := F1) (H' := upd H1 b (.lst ws)) (v := .ref b) s1' (.lst hb (hK ▸ dv)) q
end
end Eg
namespace Eg
open PySem L2 PySem.W PySem.SeqAt PySem.Spec PyProof.Rows
def pairsD : List PyData → Option (List (PyData × PyData))
  | [] => some []
  | .tuple [k, d] :: ds => if keyT k = true then (pairsD ds).map ((k, d) :: ·) else none
  | _ => none
def kFill (kvs ps : List (PyData × PyData)) : List (PyData × PyData) := ps.foldl (fun acc p => kPut acc p.1 p.2) kvs
inductive PR (K : Kw) (F : Hp) : List Addr → List KRow → List (PyData × PyData) → Prop
  | nil : PR K F [] [] []
  | cons {T b : Addr} {k d : PyData} {v : V} {Ts : List Addr} {L : List KRow} {ps : List (PyData × PyData)} : keyT k = true → SqT K F T [.ref b, v] → DV K F (.ref b) k → DV K F v d → PR K F Ts L ps → PR K F (T :: Ts) ((nk k, b, v) :: L) ((k, d) :: ps)
theorem PR.of {K : Kw} {F : Hp} : ∀ {vs : List V} {ds : List PyData} {ps : List (PyData × PyData)}, DVs K F vs ds → pairsD ds = some ps → ∃ Ts L, PR K F Ts L ps ∧ vs = Ts.map V.ref
  | _, _, _, .nil, e => by cases e; exact ⟨[], [], .nil, rfl⟩
  | _, _, _, .cons (d := d0) h t, e => by
    match d0, h, e with
    | .tuple [k, d], h, e =>
      simp only [pairsD] at e
      split at e
      · rename_i kt
        cases e2 : pairsD _ with
        | none => rw [e2] at e; cases e
        | some ps =>
          rw [e2] at e
          cases e
          obtain ⟨Ts, L, r, ev⟩ := PR.of t e2
          cases h with
          | tup h1 h2 =>
            cases h2 with
            | cons a1 a2 =>
              cases a2 with
              | cons a3 a4 =>
                cases a4
                obtain ⟨b, rfl⟩ := dv_tup a1 kt
                exact ⟨_ :: Ts, _ :: L, .cons kt h1 a1 a3 r, by rw [List.map_cons, ev]⟩
      · cases e
theorem PR.len {K : Kw} {F : Hp} : ∀ {Ts : List Addr} {L : List KRow} {ps : List (PyData × PyData)}, PR K F Ts L ps → Ts.length = ps.length ∧ L.length = ps.length
  | _, _, _, .nil => ⟨rfl, rfl⟩
  | _, _, _, .cons _ _ _ _ t => by
    obtain ⟨a, b⟩ := PR.len t
    simp only [List.length_cons, a, b, and_self]
section
variable [Tbs] {X : Cx} {C : Ct} {e : Expr} {pos p : Pos}
end
end Eg
namespace Eg
open PySem L2 PySem.W PySem.SeqAt
def onKo {γ : Type} (x : Option (List (PyData × PyData))) (f : List (PyData × PyData) → PyData → Option γ) (kd : PyData) : M γ := fun ρ => match x with
  | some kvs => if keyT kd = true then Res.opt (f kvs kd) ρ else .bad
  | none => .bad
section
variable {ρ : Rho}
theorem v_onK {γ : Type} (i : Nat) (mk : M PyData) (f : List (PyData × PyData) → PyData → Option γ) : onK i mk f ρ = (mk ρ).go fun kd ρ => onKo (dctK ρ[i]?) f kd ρ := by
  refine congrArg (Res.go (mk ρ)) (funext fun kd => funext fun r => ?_)
  unfold onKo
  cases dctK r[i]? with
  | none => rfl
  | some kvs =>
    simp only
    split
    · cases f kvs kd <;> rfl
    · rfl
theorem v_kget (i : Nat) (mk : M PyData) : mKGet i mk ρ = (mk ρ).go fun kd ρ => onKo (dctK ρ[i]?) kAt kd ρ := v_onK i mk kAt
theorem v_kin (i : Nat) (mk : M PyData) : mKIn i mk ρ = (mk ρ).go fun kd ρ => onKo (dctK ρ[i]?) (fun kvs k => some (kHas kvs k)) kd ρ := v_onK i mk _
theorem v_knot (i : Nat) (mk : M PyData) : mKNot i mk ρ = (mk ρ).go fun kd ρ => onKo (dctK ρ[i]?) (fun kvs k => some (!kHas kvs k)) kd ρ := v_onK i mk _
theorem v_dck (kvs : List (PyData × PyData)) : dctK (some (some (.kd kvs))) = some kvs := rfl
theorem v_onKo {γ : Type} {kvs : List (PyData × PyData)} {f : List (PyData × PyData) → PyData → Option γ} {kd : PyData} (h : keyT kd = true) : onKo (some kvs) f kd ρ = Res.opt (f kvs kd) ρ := if_pos h
def kputO (x : Option (Option OD)) (i : Nat) (d kd : PyData) : M Out := fun ρ => match x with
  | some (some (.kd kvs)) => if keyT kd = true ∧ kvs.length < sizeLine then .ok .nx (ρ.set i (some (.kd (kPut kvs kd d)))) else .bad
  | _ => .bad
theorem v_kput (i : Nat) (mv mk : M PyData) : sKPut i mv mk ρ = (mv ρ).go fun d => mHas i (mk.bind fun kd ρ => kputO ρ[i]? i d kd ρ) := by
  refine congrArg (Res.go (mv ρ)) (funext fun d => congrArg (mHas i) (funext fun r => congrArg (Res.go (mk r)) (funext fun a => funext fun r2 => ?_)))
  unfold kputO
  cases r2[i]? with
  | none => rfl
  | some o => cases o with
    | none => rfl
    | some o => cases o <;> rfl
theorem v_kputO {kvs : List (PyData × PyData)} {i : Nat} {d kd : PyData} (h : keyT kd = true) (l : kvs.length < sizeLine) : kputO (some (some (.kd kvs))) i d kd ρ = .ok .nx (ρ.set i (some (.kd (kPut kvs kd d)))) := if_pos ⟨h, l⟩
def kfrO (x : Option (Option OD)) (i : Nat) : M Arg := fun ρ => match x with
  | some (some (.kd kvs)) => .ok (.slot i) (ρ.set i (some (.sn kvs)))
  | some (some (.sn _)) => .ok (.slot i) ρ
  | _ => .bad
theorem v_kfrz (i : Nat) : mKFrz i ρ = kfrO ρ[i]? i ρ := by
  unfold mKFrz kfrO
  cases ρ[i]? with
  | none => rfl
  | some o => cases o with
    | none => rfl
    | some o => cases o <;> rfl
theorem v_kfrk (kvs : List (PyData × PyData)) (i : Nat) : kfrO (some (some (.kd kvs))) i ρ = .ok (.slot i) (ρ.set i (some (.sn kvs))) := rfl
theorem v_kfrn (kvs : List (PyData × PyData)) (i : Nat) : kfrO (some (some (.sn kvs))) i ρ = .ok (.slot i) ρ := rfl
theorem v_sset (ms : M (List Arg)) : mSSet ms ρ = (mL gKeys ms ρ).go fun ds => M.lift (gOnce ds) := rfl
theorem v_kcomp (src : M (List PyData)) (t : Tgt) (mt : M Bool) (mk mv : M PyData) (vs : List Nat) : mKComp src t mt mk mv vs ρ = (src ρ).go fun xs ρ => match kcGo t mt mk mv vs xs [] ρ with
  | .ok acc ρ' => if ρ'.length = ρ.length then .ok (.kd acc) (restR ρ ρ' vs) else .bad
  | _ => .bad := rfl
end
section
variable [Tbs] {X : Cx} {C : Ct} {a b : Expr} {pos : Pos} {P : List Nat}
theorem s_parC {i j n : Nat} {tx ty : Expr} {ma mb : M OD} {pt : Pos} {kt k2 pt2} (hc : X.calm = true) (gx : PG X tx (gName i)) (gy : PG X ty (gName j)) (ha : PE X a (tO C ma)) (hb : PE X b (tO C mb)) (li : i < n := by decide) (lj : j < n := by decide) (hPi : i ∉ P := by decide) (hPj : j ∉ P := by decide) (hN : X.N.length = n := by rfl)
    (hw : swappedStores [.Tuple [tx, ty] kt pt] (.Tuple [a, b] k2 pt2) X.env = pure none := by rfl) (hs : swapsWithSole [.Tuple [tx, ty] kt pt] (.Tuple [a, b] k2 pt2) pos.line X.env = pure false := by rfl)
    (h1 : (assignEach [.Tuple [tx, ty] kt pt] X.env).map (·.2) = [assign (.Tuple [tx, ty] kt pt) X.env] := by rfl) (hn : (assignEach [tx, ty] X.env).length = 2 := by rfl) (hst : (assignEach [tx, ty] X.env).findIdx? (·.1) = none := by rfl)
    (hsa : starEach [a, b] X.env = (false, eval a X.env) :: starEach [b] X.env := by rfl) (hsb : starEach [b] X.env = (false, eval b X.env) :: starEach [] X.env := by rfl)
    (hg1 : PGs X [tx, ty] (gCons (gName i) (gCons (gName j) gNil))) :
    PS X (.Assign [.Tuple [tx, ty] kt pt] (.Tuple [a, b] k2 pt2) pos) (tS C P (sPar i j ma mb)) := by
  refine ⟨fun pins s σ H D I ⟨F, ρ, sr, p⟩ => (ps_asg (pe_tup (pa_cons ha (pa_cons hb pa_nil hsb) hsa)) (pg_tup (n := 2) hc hg1 hn hst) hs hw h1).run pins s σ H D I ?_⟩
  have li : i < σ.length := by rw [I.len, hN]; exact li
  have lj : j < σ.length := by rw [I.len, hN]; exact lj
  unfold sPar M.bind at p
  refine ⟨F, ρ, sr, ?_⟩
  cases e1 : ma ρ with
  | bad => rw [e1] at p; exact p
  | ex x ρ' => rw [e1] at p; exact fun F' H' cls d g s r => p F' H' σ cls d g s Pres.refl r
  | ok u ρ1 =>
  simp only [e1] at p
  intro F1 H1 v g1 s1 r1
  refine ⟨F1, ρ1, s1, ?_⟩
  cases e2 : mb ρ1 with
  | bad => simp only [e2] at p; exact p.elim
  | ex x ρ' => simp only [e2] at p; exact fun F' H' cls d g s r => p F' H' σ cls d (g1.trans g) s Pres.refl r
  | ok w ρ2 =>
  simp only [e2] at p
  intro F2 H2 z g2 s2 r2
  refine ⟨by simp [sizeLine_eq], fun q hq => ⟨q, [v, z], rfl, SqT.of upd_same, rfl, v, [z], rfl, z, [], rfl, rfl, ?_⟩⟩
  have g3 := g2.trans (Grow.fresh (ow := own σ ρ2) (F := F2) (o := .tup [v, z]) hq)
  have s3 := s2.fresh (o := .tup [v, z]) hq
  have one : ∀ c, v = .ref c → u.isO = true → ¬ own σ ρ1 c ∧ (∃ o, H1 c = some o) ∧ F1 c = none := fun c ea io => by
    obtain ⟨b, o, eb, fb, hb⟩ := r1.1.refs io
    rw [eb] at ea; cases ea
    exact ⟨(r1.2 io c eb).1, ⟨o, hb⟩, fb⟩
  have or1 : OR C.K F2 (upd H2 q (.tup [v, z])) v u := r1.1.keep g3.ext fun c ea io => by
    obtain ⟨n1, ⟨o, ho⟩, fa⟩ := one c ea io
    refine ⟨?_, fun o' h t => g3.keep c o' h t n1⟩
    cases e : F2 c with
    | none => rfl
    | some y =>
      rcases g3.new c (by rw [e]; simp) with y | y | y
      · exact absurd fa y
      · rw [ho] at y; cases y
      · exact absurd y n1
  have no2 : ∀ c, v = .ref c → u.isO = true → ¬ own σ ρ2 c := fun c ea io y => by
    obtain ⟨n1, ⟨o, ho⟩, _⟩ := one c ea io
    rcases g3.ows c y with k | k
    · exact n1 k
    · rw [ho] at k; cases k
  have or2 : OR C.K F2 (upd H2 q (.tup [v, z])) z w := r2.1.keep (Same.refl _) fun c ea io => by
    obtain ⟨b, o, eb, fb, hb⟩ := r2.1.refs io
    rw [eb] at ea; cases ea
    exact ⟨fb, fun o' h _ => by rw [upd_ne (ne_of_none h hq)]; exact h⟩
  have sA : SR C.K F2 (upd H2 q (.tup [v, z])) (σ.set i (some v)) (ρ2.set i (some u)) := s3.store li or1 fun io c ea => no2 c ea io
  have sB : SR C.K F2 (upd H2 q (.tup [v, z])) ((σ.set i (some v)).set j (some z)) ((ρ2.set i (some u)).set j (some w)) := by
    refine sA.store (by rw [List.length_set]; exact lj) or2 fun io c ea y => ?_
    rcases own.store li y with k | ⟨k1, k2⟩
    · exact (r2.2 io c ea).1 k
    · obtain ⟨n1, ⟨o, ho⟩, _⟩ := one c k2 k1
      rcases (r2.2 io c ea).2 with m | m
      · rw [ho] at m; cases m
      · exact n1 m
  have g := g1.trans g3
  refine p F2 _ _ ⟨g.ext, g.keep, g.kt, g.new, fun c y => ?_⟩ sB ⟨by rw [List.length_set, List.length_set], fun p hp => ?_⟩
  · rcases own.store (by rw [List.length_set]; exact lj) y with y | ⟨k1, k2⟩
    · rcases own.store li y with k | ⟨k1, k2⟩
      · exact g.ows c k
      · exact ((r1.2 k1 c k2).2).symm
    · rcases (r2.2 k1 c k2).2 with m | m
      · exact (g1.back m).symm
      · exact g1.ows c m
  · rw [List.getElem?_set_ne (fun z => hPj (by rw [z]; exact hp)), List.getElem?_set_ne (fun z => hPi (by rw [z]; exact hp))]
end
theorem kPut_len (kvs : List (PyData × PyData)) (k d : PyData) : (kPut kvs k d).length ≤ kvs.length + 1 := by
  unfold kPut kRepl
  split <;> simp
theorem kFill_len : ∀ (ps kvs : List (PyData × PyData)), (kFill kvs ps).length ≤ kvs.length + ps.length
  | [], kvs => Nat.le_refl _
  | p :: ps, kvs => by
    have h1 := kFill_len ps (kPut kvs p.1 p.2)
    have h2 := kPut_len kvs p.1 p.2
    rw [List.length_cons]
    show (kFill (kPut kvs p.1 p.2) ps).length ≤ _
    omega
section
variable {α : Type} {src : M (List PyData)} {t : Tgt} {mk mv : M PyData} {vs : List Nat} {ρ ρ0 : Rho}
theorem kc_map {Inv : Rho → Prop} (f k g : α → PyData) : ∀ (xs : List α) (acc : List (PyData × PyData)) (ρ : Rho), Inv ρ → acc.length + xs.length ≤ sizeLine → (∀ x ∈ xs, keyT (k x) = true) →
    (∀ x ∈ xs, ∀ ρ, Inv ρ → ∃ ρ1 ρ2 ρ3, t (f x) (wipeR ρ vs) = some ρ1 ∧ mk ρ1 = .ok (k x) ρ2 ∧ mv ρ2 = .ok (g x) ρ3 ∧ Inv ρ3) → ∃ ρ', Inv ρ' ∧ kcGo t (M.ret true) mk mv vs (xs.map f) acc ρ = .ok (kFill acc (xs.map fun x => (k x, g x))) ρ'
  | [], acc, ρ, i, _, _, _ => ⟨ρ, i, rfl⟩
  | x :: xs, acc, ρ, i, hl, hk, h => by
    obtain ⟨ρ1, ρ2, ρ3, e1, e2, e3, i3⟩ := h x List.mem_cons_self ρ i
    rw [List.length_cons] at hl
    have l2 := kPut_len acc (k x) (g x)
    obtain ⟨ρ', i', e'⟩ := kc_map f k g xs (kPut acc (k x) (g x)) ρ3 i3 (by omega) (fun y hy => hk y (List.mem_cons_of_mem _ hy)) fun y hy => h y (List.mem_cons_of_mem _ hy)
    refine ⟨ρ', i', ?_⟩
    rw [List.map_cons]
    simp only [kcGo, e1, M.ret, e2, e3]
    rw [if_pos ⟨hk x List.mem_cons_self, by omega⟩, e']
    rfl
theorem kcomp_pure {l : List α} {f : α → PyData} (k g : α → PyData) (hs : src ρ = .ok (l.map f) ρ0) (hl : l.length ≤ sizeLine) (hk : ∀ x ∈ l, keyT (k x) = true)
    (step : ∀ x ∈ l, ∃ ρ1 ρ2 ρ3, t (f x) (wipeR ρ0 vs) = some ρ1 ∧ mk ρ1 = .ok (k x) ρ2 ∧ mv ρ2 = .ok (g x) ρ3 ∧ wipeR ρ3 vs = wipeR ρ0 vs) : mKComp src t (M.ret true) mk mv vs ρ = .ok (.kd (kFill [] (l.map fun x => (k x, g x)))) ρ0 := by
  obtain ⟨ρ', i, e⟩ := kc_map (Inv := fun r => wipeR r vs = wipeR ρ0 vs) f k g l [] ρ0 rfl (by rw [List.length_nil]; omega) hk fun x hx r hr => by
    obtain ⟨ρ1, ρ2, ρ3, e1, e2, e3, e4⟩ := step x hx
    exact ⟨ρ1, ρ2, ρ3, by rw [hr]; exact e1, e2, e3, e4⟩
  rw [v_kcomp, hs, v_go]
  simp only [e]
  rw [if_pos (by rw [← wipeR_len ρ' vs, i, wipeR_len]), restR_self i]
end
end Eg
namespace Eg
open PySem L2 PySem.W PySem.SeqAt PySem.Spec PyProof.Rows
abbrev Cl (t i : Expr) (fs : List Expr) : Comprehension := ⟨t, i, fs, 0⟩
section
variable {P : Program} {w : World} {A : Around} {R : Result → Shared → Prop} {s : Shared} {kx vx tA iA tB iB : Expr} {fA fB : List Expr} {scope : Scope} {pos : Pos} {it : Value} {D : Addr} {env : Env}
abbrev two2 (kx vx tA iA tB iB : Expr) (fA fB : List Expr) (scope : Scope) (pos : Pos) : Expr := .DictComp kx vx [Cl tA iA fA, Cl tB iB fB] scope pos
end
end Eg
namespace Eg
open PySem L2 PySem.W PySem.SeqAt PySem.Spec PyProof.Rows
section
variable [Tbs] {X : Cx} {C : Ct} {kx vx tA iA tB iB : Expr} {fA fB : List Expr} {pos : Pos}
end
end Eg
namespace Eg
open PySem L2 PySem.W PySem.SeqAt
section
variable {α β : Type} {src src1 : M (List PyData)} {t t1 : Tgt} {mk mv : M PyData} {vs vs1 : List Nat} {ρ ρ0 : Rho}
theorem kFill_append (acc ps qs : List (PyData × PyData)) : kFill acc (ps ++ qs) = kFill (kFill acc ps) qs := by unfold kFill; rw [List.foldl_append]
end
end Eg
namespace Eg
open PySem L2 PySem.W PySem.SeqAt
section
variable [Tbs] {X : Cx}
end
end Eg
namespace Eg
open PySem L2 PySem.W PySem.SeqAt
section
variable [Tbs] {X : Cx} {C : Ct} {P : List Nat} {a b c : Expr} {pos : Pos}
end
section
variable {ρ : Rho}
end
end Eg
namespace Eg
open PySem L2 PySem.W PySem.Calls PySem.SeqAt PySem.Spec PyProof.Rows
structure OexG (K : PySem.W.Frag) (C : Addr) : Prop where
  base : ∃ (B newId initId : String) (bmB : List Value), ExcBaseFacts B newId initId bmB ∧ StoreFacts B bmB "object.__setattr__" "object" ∧ excOver K C bmB = true ∧ excInitIn K C bmB newId = true
  hd : PySem.W.hasDictIn K C = true
  sa : PySem.W.findIn K (.ref C) "__setattr__" = some (some (.builtin "object.__setattr__"))
  exC : PySem.W.subIn K (.ref C) (.type "BaseException") = some true
  tyC : PySem.W.typeIn K (.ref C) = some (.type "type")
  kC : PySem.W.keepIn K (.ref C) = true
section
open Builtin Builtin.ObjectAttr
variable {prog : Program} {w : World} {A : Around} {R : Result → Shared → Prop} {hp : Heap} {g : Array GenState} {d : Drawn} {t : Nat} {os : OsState} {K : PySem.W.Frag} {C x dx : Addr} {fv : Array Value} {name : Str} {tk : Tok} {v : Value} {m0 : Str → Option Value} {nl : List Str}
theorem OexG.cls (T : OexG K C) (X : K.In hp) : ∃ cd : ClassData, cd.hasDict = true ∧ PySem.W.Looks (model prog w) hp (classData C) cd := by
  obtain ⟨_, _, _, _, _, _, o1, _⟩ := T.base
  obtain ⟨cd, hcd, _⟩ := any_some o1
  have q := T.hd
  unfold PySem.W.hasDictIn at q
  rw [hcd] at q
  exact ⟨cd, by simpa using q, PySem.W.looks_clsIn X hcd⟩
end
end Eg
namespace Eg
open PySem L2 PySem.W PySem.Calls PySem.SeqAt PySem.Spec PyProof.Rows
section
variable {X : Cx} {pins : List (Addr × Obj)} {σ : L2.St} {H : Hp} {s : Shared} {a C dx : Addr} {f : Str} {y : V} {u : Value} {fs : List (Str × V)} {Q : Unit → Shared → Prop} {E : Value → Shared → Prop}
end
section
variable {X : Cx} {o e : Expr} {es : List Expr} {to te : TE} {ta : TA} {f : Str} {p q pos : Pos}
end
end Eg
namespace Eg
open PySem L2 PySem.W PySem.SeqAt PySem.Spec PyProof.Rows
section
variable {P : Program} {w : World} {K : PySem.W.Frag} {mg : Str → Option Value} {base : Heap} {k : Nat}
end
end Eg
namespace Eg
open PySem L2 PySem.W PySem.SeqAt PySem.Spec PyProof.Rows
section
variable [Tbs] {X : Cx} {C : Ct} {P : List Nat} {e : Expr} {es : List Expr} {p pos pos' : Pos} {x : Str} {k : Nat} {Cl fI : Addr} {fd : FuncData} {ps fs : List Str} {ms : M (List Arg)}
end
end Eg
namespace Eg
open PySem L2 PySem.W PySem.SeqAt PySem.Spec PyProof.Rows
section
variable [Tbs] {X : Cx} {C : Ct} {P : List Nat} {x : Str} {c : Value} {body suite : List Stmt} {b₀ : Stmt} {np pos pos' : Pos} {mb ms : M Out} {hit : Xc → Bool}
end
section
variable {ρ : Rho}
end
end Eg
namespace Eg
open PySem L2 PySem.W PySem.SeqAt PySem.Spec PyProof.Rows
section
variable [Tbs] {K K' : Kw} {F H : Hp}
theorem at_set {α : Type} {l : List α} {i j : Nat} {x y : α} (h : (l.set i x)[j]? = some y) : (i = j ∧ y = x) ∨ (i ≠ j ∧ l[j]? = some y) := by
  by_cases e : i = j
  · subst e
    left
    rw [List.getElem?_set] at h
    simp at h
    exact ⟨rfl, h.2.symm⟩
  · exact .inr ⟨e, by rw [List.getElem?_set_ne e] at h; exact h⟩
theorem own.en {σ : L2.St} {ρ : Rho} {i : Nat} {v : V} {nm : Str} {fl : List (Str × PyData)} {b : Addr} (h : own (σ.set i (some v)) (ρ.set i (some (.en nm fl))) b) : own σ ρ b := by
  obtain ⟨j, o, h1, h2, h3⟩ := h
  rcases at_set h1 with ⟨_, z⟩ | ⟨n, h1⟩
  · cases z; cases h2
  · rw [List.getElem?_set_ne n] at h3
    exact ⟨j, o, h1, h2, h3⟩
end
section
variable [Tbs] {X : Cx} {C : Ct} {P : List Nat} {x n : Str} {c : Value} {i : Nat} {body suite : List Stmt} {b₀ : Stmt} {np pos pos' : Pos} {mb ms : M Out} {hit : Xc → Bool}
end
end Eg
namespace Eg
open PySem L2 PySem.W PySem.SeqAt PySem.Spec PyProof.Rows
section
variable [Tbs] {X : Cx} {a : Addr} {oe : Obj} {pn : List (Addr × Obj)} {i : Nat} {n f : Str} {nms : List Str} {W : WX} {XR : Hp → Hp → Value → Option Addr → Xc → Prop} {p pos : Pos} {li : Option LamI}
end
section
variable {ρ : Rho}
end
end Eg
namespace Eg
open PySem L2 PySem.W PySem.SeqAt PySem.Spec PyProof.Rows
section
variable {K : PySem.W.Frag} {C : Addr} {B nw ini : String} {bm : List Value}
end
end Eg
namespace Eg
open PySem L2 PySem.W PySem.SeqAt PySem.Spec PyProof.Rows
end Eg
namespace Eg
open PySem L2 PySem.W PySem.SeqAt PySem.Spec PyProof.Rows
structure ExcK (K : PySem.W.Frag) (C fI : Addr) (fd : FuncData) (ps fs : List Str) : Prop where
  oex : OexG K C
  xf : XfC K C
  ini : PySem.W.findIn K (.ref C) "__init__" = some (some (.ref fI))
  ty : PySem.W.typeIn K (.ref fI) = some (.type "function")
  bind : Binds K fd ps []
  no : ∀ f ∈ fs, PySem.W.findIn K (.ref C) f = some none
  self : PySem.W.exmOne K (.ref C) (.ref C) = some true
section
variable [Tbs] {X : Cx} {C : Ct} {P : List Nat} {e : Expr} {es : List Expr} {p pos pos' : Pos} {x : Str} {k : Nat} {Cl fI : Addr} {fd : FuncData} {ps fs : List Str} {ms : M (List Arg)}
end
end Eg
namespace Eg
open PySem L2 PySem.W PySem.SeqAt PySem.Spec PyProof.Rows
section
variable {K : PySem.W.Frag} {C fI : Addr} {fd : FuncData} {ps fs : List Str} {mg : Str → Option Value}
variable {B nw in0 : String} {bm : List Value}
end
end Eg
namespace Eg
open PySem L2 PySem.W PySem.SeqAt PySem.Spec PyProof.Rows
def getOrK (i : Nat) (k d : PyData) : M PyData := fun ρ => match dctK ρ[i]? with
  | some kvs => if keyT k = true then .ok ((kAt kvs k).getD d) ρ else .bad
  | none => .bad
section
variable [Tbs] {X : Cx} {C : Ct} {P : List Nat} {e e' o a b c : Expr} {pos apos : Pos}
end
section
variable {ρ : Rho}
end
end Eg
namespace Eg
open PySem L2 PySem.W PySem.SeqAt PySem.Spec PyProof.Rows
section
variable [Tbs] {X : Cx} {C : Ct} {x : Str} {v : V} {u : Value} {d : PyData} {pos : Pos} {K : Kw} {F : Hp}
theorem d_const (hg : Gl X x) (hm : X.mg x = some u) (r : RelV v u) (dv : ∀ F, DV C.K F v d) (hd : (x == ("__debug__" : Str)) = false := by decide) : PE X (.Name x pos) (tD C (M.ret d)) :=
  (pe_glob hg hm r hd).imp fun σ H Q ⟨F, ρ, sr, p⟩ => p F H v Grow.refl sr (dv F)
theorem dv_const {a : Addr} {o : Option Addr} {its : Array Value} {n : Nat} {sl : Array (Option Value)} {xs : List V} {ds : List PyData} (l : K.fr.lookup a = some ⟨.type "tuple", o, .seq its n, sl⟩) (hs : its.size ≤ sizeLine) (hv : Vals xs its.toList) (hd : DVs K F xs ds) : DV K F (.ref a) (.tuple ds) :=
  .tup (.inr ⟨_, its, n, l, rfl, rfl, hs, hv⟩) hd
example {a : Addr} {o : Option Addr} {n : Nat} {t1 t2 : Tok} {sl : Array (Option Value)} (l : K.fr.lookup a = some ⟨.type "tuple", o, .seq #[.str "yes" t1, .str "no" t2] n, sl⟩) : ∀ F, DV K F (.ref a) (.tuple [.str "yes", .str "no"]) :=
  fun F => dv_const (xs := [.str "yes", .str "no"]) l (by simp [sizeLine]) (.cons ⟨_, rfl⟩ (.cons ⟨_, rfl⟩ .nil)) (.cons (.str _) (.cons (.str _) .nil))
end
section
variable [Tbs] {X : Cx}
end
end Eg
namespace Eg
open PySem L2 PySem.W PySem.SeqAt PySem.Spec PyProof.Rows
end Eg
namespace Eg
open PySem L2 PySem.W PySem.SeqAt PySem.Spec PyProof.Rows
section
variable [Tbs] {X : Cx}
end
section
variable [Tbs] {X : Cx} {C : Ct} {e o : Expr} {es : List Expr} {pos : Pos} {P : List Nat}
inductive ODs (K : Kw) (F H : Hp) : List V → List OD → Prop
  | nil : ODs K F H [] []
  | cons {v : V} {o : OD} {vs : List V} {os : List OD} : OR K F H v o → ODs K F H vs os → ODs K F H (v :: vs) (o :: os)
inductive FreshL (P : Addr → Prop) : List V → List OD → Prop
  | nil : FreshL P [] []
  | cons {v : V} {o : OD} {vs : List V} {os : List OD} : (o.isO = true → ∀ a, v = .ref a → P a ∧ ∀ q ∈ vs.zip os, q.2.isO = true → q.1 ≠ .ref a) → FreshL P vs os → FreshL P (v :: vs) (o :: os)
theorem FreshL.imp {P P' : Addr → Prop} (h : ∀ a, P a → P' a) : ∀ {vs : List V} {os : List OD}, FreshL P vs os → FreshL P' vs os
  | _, _, .nil => .nil
  | _, _, .cons h1 t => .cons (fun io a ea => ⟨h a (h1 io a ea).1, (h1 io a ea).2⟩) (FreshL.imp h t)
theorem FreshL.at {P : Addr → Prop} : ∀ {vs : List V} {os : List OD}, FreshL P vs os → ∀ q ∈ vs.zip os, q.2.isO = true → ∀ a, q.1 = .ref a → P a
  | _, _, .nil, q, h, _, _, _ => by cases h
  | _, _, .cons h1 t, q, h, io, a, ea => by
    rcases List.mem_cons.mp h with rfl | h
    · exact (h1 io a ea).1
    · exact FreshL.at t q h io a ea
theorem ODs.len {K : Kw} {F H : Hp} : ∀ {vs : List V} {os : List OD}, ODs K F H vs os → vs.length = os.length
  | _, _, .nil => rfl
  | _, _, .cons _ t => by rw [List.length_cons, List.length_cons, ODs.len t]
theorem ODs.keep {K : Kw} {F H F' H' : Hp} (e : Same F F') : ∀ {vs : List V} {os : List OD}, ODs K F H vs os → (∀ q ∈ vs.zip os, q.2.isO = true → ∀ a, q.1 = .ref a → F' a = none ∧ ∀ u, H a = some u → noT u → H' a = some u) → ODs K F' H' vs os
  | _, _, .nil, _ => .nil
  | _, _, .cons h t, k => .cons (h.keep e fun a ea io => k _ List.mem_cons_self io a ea) (ODs.keep e t fun q hq => k q (List.mem_cons_of_mem _ hq))
inductive NamesOk (n : Nat) (P : List Nat) : TGs → List Nat → Prop
  | nil : NamesOk n P gNil []
  | cons {i : Nat} {u : TGs} {is : List Nat} : i < n → i ∉ P → NamesOk n P u is → NamesOk n P (gCons (gName i) u) (i :: is)
end
section
variable {ρ : Rho}
end
end Eg
namespace Eg
instance (priority := low) noTbs : Tbs := ⟨[]⟩
end Eg
namespace Eg
open PySem L2 PySem.W PySem.SeqAt PySem.Spec PyProof.Rows
end Eg
namespace Eg
open PySem L2 PySem.W PySem.SeqAt PySem.Spec PyProof.Rows
section
variable {X : Cx} {pins : List (Addr × Obj)} {σ : L2.St} {H HZ : Hp} {s s1 : Shared}
end
end Eg
namespace Eg
open PySem L2 PySem.W PySem.SeqAt PySem.Spec PyProof.Rows
inductive Made (H : Hp) (P : Addr) (q : Str) (pos : Pos) (c : Addr) : Hp → Prop
  | hit {ps : Array Value} : H P = some (.tbl ps) → codeAmong pos ps.toList = some (.ref c) → Made H P q pos c H
  | new {ps : Array Value} : H P = some (.tbl ps) → TriplesOk ps.toList → H c = none → Made H P q pos c (upd (upd H P (.tbl (ps ++ #[rawInt pos.line, rawInt pos.col, .ref c]))) c (LamX.CodeO c q))
section
variable [Tbs] {K : Kw} {F H H1 : Hp} {σ : L2.St} {ρ : Rho} {P c : Addr} {q : Str} {pos : Pos}
end
end Eg
namespace Eg
open PySem L2 PySem.W PySem.SeqAt PySem.Spec PyProof.Rows
section
variable {X : Cx} {pins : List (Addr × Obj)} {σ : L2.St} {H : Hp} {s : Shared}
end
section
variable {X : Cx}
end
end Eg
namespace Eg
open PySem L2 PySem.W PySem.SeqAt PySem.Spec PyProof.Rows
section
variable [Tbs] {Xc : Cx} {C : Ct} {K0 : Kw} {e : Expr} {li : LamI} {i n : Nat} {mb : M OD}
end
end Eg
namespace Eg
open PySem L2 PySem.W PySem.SeqAt PySem.Spec PyProof.Rows
section
variable [Tbs] {X : Cx} {C : Ct}
end
end Eg
namespace Eg
open PySem L2 PySem.W PySem.SeqAt PySem.Spec PyProof.Rows
end Eg
namespace Eg
open PySem L2 PySem.W PySem.SeqAt PySem.Spec PyProof.Rows
end Eg
namespace Eg
open PySem L2 PySem.W PySem.SeqAt PySem.Spec PyProof.Rows
structure TMid [Tbs] (C : Ct) (σ0 : L2.St) (ρ1 : Rho) (vs : List Nat) (F1 H1 : Hp) (D : Addr) (σ : L2.St) (ρ : Rho) (F H : Hp) (acc : List (Key × PyData)) : Prop where
  sr : SR C.K F H σ ρ
  gr : Grow (own σ0 (wipeR ρ1 vs)) (own σ ρ) F1 H1 F H
  no : ¬ own σ ρ D
  ft : F D = none
  rows : ∃ L, H D = some (.dK L) ∧ KD C.K F L acc
section
variable [Tbs] {C : Ct} {σ0 σ : L2.St} {ρ1 ρ ρ' : Rho} {vs : List Nat} {F1 H1 F H F' H' : Hp} {D : Addr} {acc : List (Key × PyData)}
theorem TMid.on (m : TMid C σ0 ρ1 vs F1 H1 D σ ρ F H acc) (g : Grow (own σ ρ) (own σ ρ') F H F' H') (s : SR C.K F' H' σ ρ') : TMid C σ0 ρ1 vs F1 H1 D σ ρ' F' H' acc := by
  obtain ⟨L, h, t⟩ := m.rows
  refine ⟨s, m.gr.trans g, fun z => ?_, ?_, L, g.keep D _ h (fun _ z => by cases z) m.no, t.mono g.ext⟩
  · rcases g.ows D z with y | y
    · exact m.no y
    · rw [h] at y; cases y
  · cases q : F' D with
    | none => rfl
    | some u =>
      rcases g.new D (by rw [q]; simp) with z | z | z
      · exact absurd m.ft z
      · rw [h] at z; cases z
      · exact absurd z m.no
end
section
variable [Tbs] {X : Cx} {C : Ct} {kx vx tg iter : Expr} {ifs : List Expr} {pos : Pos}
end
end Eg
namespace Eg
open PySem L2 PySem.W PySem.SeqAt PySem.Spec PyProof.Rows
theorem KD.at {K : Kw} {H : Hp} : ∀ {es : List (Key × V)} {kvs : List (Key × PyData)} {i : Nat} {k : Key} {d : PyData}, KD K H es kvs → kvs[i]? = some (k, d) → ∃ v, es[i]? = some (k, v) ∧ DV K H v d
  | _, _, i, _, _, .nil, e => by simp at e
  | _, _, 0, _, _, .cons h t, e => by
    simp only [List.getElem?_cons_zero, Option.some.injEq, Prod.mk.injEq] at e
    obtain ⟨rfl, rfl⟩ := e
    exact ⟨_, rfl, h⟩
  | _, _, i + 1, _, _, .cons h t, e => by
    rw [List.getElem?_cons_succ] at e
    obtain ⟨v, e1, h1⟩ := KD.at t e
    exact ⟨v, by rw [List.getElem?_cons_succ]; exact e1, h1⟩
section
variable {K : Kw} {F : Hp} {a : Addr} {o : Obj} {es : List (Key × V)} {kvs : List (Key × PyData)}
end
section
variable [Tbs] {X : Cx} {C : Ct} {e o tg a b : Expr} {es : List Expr} {pos apos cpos pos' : Pos} {P : List Nat}
end
section
variable {A : Around} {s : Shared} {prog : Program} {w : World} {E : Value → Shared → Prop}
end
section
variable [Tbs] {X : Cx} {K : Kw} {pins : List (Addr × Obj)} {σ : L2.St} {H : Hp} {s : Shared}
end
section
variable {ρ : Rho}
end
end Eg
namespace PySem
open Sem (wp)
end PySem
namespace Eg
open PySem L2 PySem.W PySem.SeqAt PySem.Spec PyProof.Rows
section
variable [Tbs] {X : Cx} {C : Ct} {a : Expr} {pos : Pos}
end
end Eg
namespace Eg
open PySem L2 PySem.W PySem.SeqAt PySem.Spec PyProof.Rows
structure GRow where
  k : PyData
  b : Addr
  l : Addr
  vs : List V
  ds : List PyData
def GRow.row (r : GRow) : KRow := (nk r.k, r.b, .ref r.l)
structure GOk (K : Kw) (F H : Hp) (r : GRow) : Prop where
  kt : keyT r.k = true
  kd : DV K F (.ref r.b) r.k
  hl : H r.l = some (.lst r.vs)
  dv : DVs K F r.vs r.ds
structure GMid [Tbs] (C : Ct) (σ0 : L2.St) (ρ0 : Rho) (F0 H0 : Hp) (a : Addr) (σ : L2.St) (ρ : Rho) (F H : Hp) (rs : List GRow) : Prop where
  sr : SR C.K F H σ ρ
  gr : Grow (own σ0 ρ0) (fun b => own σ ρ b ∨ b ∈ a :: rs.map (·.l)) F0 H0 F H
  obj : H a = some (KO C.K.w a (rs.map GRow.row))
  rows : ∀ r ∈ rs, GOk C.K F H r
  no : ∀ b ∈ a :: rs.map (·.l), ¬ own σ ρ b ∧ F b = none
  nd : (a :: rs.map (·.l)).Nodup
  kn : (rs.map fun r => nk r.k).Nodup
section
variable [Tbs] {C : Ct} {σ0 σ σ' : L2.St} {ρ0 ρ ρ' : Rho} {F0 H0 F H F' H' : Hp} {a : Addr} {rs : List GRow}
theorem GMid.has (m : GMid C σ0 ρ0 F0 H0 a σ ρ F H rs) {b : Addr} (hb : b ∈ a :: rs.map (·.l)) : ∃ u, H b = some u ∧ noT u := by
  rcases List.mem_cons.mp hb with rfl | hb
  · exact ⟨_, m.obj, KO_noT _ _ _⟩
  · obtain ⟨r, hr, rfl⟩ := List.mem_map.mp hb
    exact ⟨_, (m.rows r hr).hl, fun _ z => by cases z⟩
theorem GMid.on (m : GMid C σ0 ρ0 F0 H0 a σ ρ F H rs) (g : Grow (own σ ρ) (own σ' ρ') F H F' H') (s : SR C.K F' H' σ' ρ') : GMid C σ0 ρ0 F0 H0 a σ' ρ' F' H' rs := by
  have stay : ∀ b ∈ a :: rs.map (·.l), ∀ u, H b = some u → H' b = some u := fun b hb u hu => by
    obtain ⟨u', h1, h2⟩ := m.has hb
    rw [hu] at h1; cases h1
    exact g.keep b u hu h2 (m.no b hb).1
  refine ⟨s, ⟨m.gr.ext.trans g.ext, fun b o h t n => ?_, fun b ps h n => ?_, fun b h => ?_, fun b h => ?_⟩, stay a List.mem_cons_self _ m.obj, fun r hr => ?_, fun b hb => ⟨fun z => ?_, ?_⟩, m.nd, m.kn⟩
  · have h1 := m.gr.keep b o h t n
    refine g.keep b o h1 t fun z => ?_
    rcases m.gr.ows b (.inl z) with y | y
    · exact n y
    · rw [h] at y; cases y
  · obtain ⟨ps1, h1⟩ := m.gr.kt b ps h n
    refine g.kt b ps1 h1 fun z => ?_
    rcases m.gr.ows b (.inl z) with y | y
    · exact n y
    · rw [h] at y; cases y
  · rcases g.new b h with z | z | z
    · exact m.gr.new b z
    · rcases m.gr.back z with y | y
      · exact .inr (.inl y)
      · exact .inr (.inr y)
    · rcases m.gr.ows b (.inl z) with y | y
      · exact .inr (.inr y)
      · exact .inr (.inl y)
  · rcases h with z | z
    · rcases g.ows b z with y | y
      · exact m.gr.ows b (.inl y)
      · rcases m.gr.back y with x | x
        · exact .inr x
        · exact .inl x
    · exact m.gr.ows b (.inr z)
  · have k := m.rows r hr
    exact ⟨k.kt, DV.mono g.ext k.kd, stay r.l (List.mem_cons_of_mem _ (List.mem_map.mpr ⟨r, hr, rfl⟩)) _ k.hl, DVs.mono g.ext k.dv⟩
  · rcases g.ows b z with y | y
    · exact (m.no b hb).1 y
    · obtain ⟨u, h1, _⟩ := m.has hb
      rw [h1] at y; cases y
  · cases q : F' b with
    | none => rfl
    | some u =>
      rcases g.new b (by rw [q]; simp) with z | z | z
      · exact absurd (m.no b hb).2 z
      · obtain ⟨u, h1, _⟩ := m.has hb
        rw [h1] at z; cases z
      · exact absurd z (m.no b hb).1
theorem GMid.wr (m : GMid C σ0 ρ0 F0 H0 a σ ρ F H rs) {b : Addr} (hb : b ∈ a :: rs.map (·.l)) (u : HO) : SR C.K F (upd H b u) σ ρ ∧ Grow (own σ0 ρ0) (fun b => own σ ρ b ∨ b ∈ a :: rs.map (·.l)) F0 H0 F (upd H b u) := by
  obtain ⟨u0, h0, t0⟩ := m.has hb
  have far : ∀ c o, H0 c = some o → ¬ own σ0 ρ0 c → c ≠ b := fun c o h n z => by
    rcases m.gr.ows b (.inr hb) with y | y
    · exact n (z ▸ y)
    · rw [z, y] at h; cases h
  refine ⟨m.sr.on (Same.refl _) (fun c v q => by rw [upd_ne (ne_of_none q (m.no b hb).2)]; exact m.sr.sub c v q) (m.sr.tb.wr h0 t0) (fun c hc => ⟨(own.at m.sr hc).1, fun v q _ => by rw [upd_ne (fun z => (m.no b hb).1 (by rw [← z]; exact hc))]; exact q⟩), ⟨m.gr.ext, fun c o h t n => ?_, fun c ps h n => ?_, m.gr.new, m.gr.ows⟩⟩
  · rw [upd_ne (far c o h n)]; exact m.gr.keep c o h t n
  · rw [upd_ne (far c _ h n)]; exact m.gr.kt c ps h n
theorem GMid.add (m : GMid C σ0 ρ0 F0 H0 a σ ρ F H rs) {k : PyData} {b q : Addr} (kt : keyT k = true) (dk : DV C.K F (.ref b) k) (hq : H q = some (.lst [])) (fq : F q = none) (nq : ¬ own σ ρ q) (oq : own σ0 ρ0 q ∨ H0 q = none) (nm : q ∉ a :: rs.map (·.l)) (kn : nk k ∉ rs.map fun r => nk r.k) :
    GMid C σ0 ρ0 F0 H0 a σ ρ F (upd H a (KO C.K.w a ((rs ++ [GRow.mk k b q [] []]).map GRow.row))) (rs ++ [GRow.mk k b q [] []]) := by
  obtain ⟨s1, g1⟩ := m.wr (b := a) List.mem_cons_self (KO C.K.w a ((rs ++ [GRow.mk k b q [] []]).map GRow.row))
  have nqa : q ≠ a := fun z => nm (z ▸ List.mem_cons_self)
  have mm : ∀ c, c ∈ a :: (rs ++ [GRow.mk k b q [] []]).map (·.l) → c ∈ a :: rs.map (·.l) ∨ c = q := fun c hc => by
    rw [List.map_append] at hc
    rcases List.mem_cons.mp hc with z | hc
    · exact .inl (z ▸ List.mem_cons_self)
    · rcases List.mem_append.mp hc with z | z
      · exact .inl (List.mem_cons_of_mem _ z)
      · exact .inr (by simpa using z)
  refine ⟨s1, ⟨g1.ext, g1.keep, g1.kt, g1.new, fun c hc => ?_⟩, upd_same, fun r hr => ?_, fun c hc => ?_, ?_, ?_⟩
  · rcases hc with z | z
    · exact g1.ows c (.inl z)
    · rcases mm c z with y | y
      · exact g1.ows c (.inr y)
      · rw [y]; exact oq
  · rcases List.mem_append.mp hr with z | z
    · have g := m.rows r z
      refine ⟨g.kt, g.kd, ?_, g.dv⟩
      rw [upd_ne]
      · exact g.hl
      · intro y
        have := (List.nodup_cons.mp m.nd).1
        exact this (List.mem_map.mpr ⟨r, z, y⟩)
    · have z : r = GRow.mk k b q [] [] := by simpa using z
      subst z
      exact ⟨kt, dk, by rw [upd_ne nqa]; exact hq, .nil⟩
  · rcases mm c hc with y | y
    · exact m.no c y
    · rw [y]; exact ⟨nq, fq⟩
  · rw [List.map_append, ← List.cons_append]
    refine List.nodup_append.mpr ⟨m.nd, by simp, fun x hx y hy => ?_⟩
    simp at hy
    rw [hy]
    exact fun z => nm (z ▸ hx)
  · rw [List.map_append]
    refine List.nodup_append.mpr ⟨m.kn, by simp, fun x hx y hy => ?_⟩
    simp at hy
    rw [hy]
    exact fun z => kn (z ▸ hx)
end
end Eg
namespace Eg
open PySem L2 PySem.W PySem.SeqAt PySem.Spec PyProof.Rows
section
variable [Tbs] {X : Cx} {C : Ct} {P : List Nat} {e ve o : Expr} {pos apos lp : Pos}
end
end Eg
namespace Eg
open PySem L2 PySem.W PySem.SeqAt PySem.Spec PyProof.Rows
section
variable {X : Cx} {pins : List (Addr × Obj)} {σ : L2.St} {H : Hp} {s : Shared} {d : Addr} {o : Obj} {L : List KRow} {w : World}
end
section
variable {P : Program} {w : World} {K : PySem.W.Frag} {tg : Expr} {d : Addr} {o : Obj} {es : Array DictEntry} {ep : Nat}
end
section
variable {X : Cx} {tg e : Expr} {td : TE} {apos cpos : Pos}
end
theorem KN.at {K : Kw} {H : Hp} : ∀ {L : List KRow} {kvs : List (PyData × PyData)} {i : Nat} {p : PyData × PyData}, KN K H L kvs → kvs[i]? = some p → ∃ r, L[i]? = some r ∧ DV K H r.2.2 p.2
  | _, _, i, _, .nil, e => by simp at e
  | _, _, 0, _, .cons _ _ _ h t, e => by
    simp only [List.getElem?_cons_zero, Option.some.injEq] at e
    cases e
    exact ⟨_, rfl, h⟩
  | _, _, i + 1, _, .cons _ _ _ h t, e => by
    rw [List.getElem?_cons_succ] at e
    obtain ⟨r, e1, h1⟩ := KN.at t e
    exact ⟨r, by rw [List.getElem?_cons_succ]; exact e1, h1⟩
section
variable [Tbs] {X : Cx} {C : Ct} {e tg : Expr} {apos cpos : Pos}
end
end Eg
namespace Eg
open PySem L2 PySem.W PySem.SeqAt PySem.Spec PyProof.Rows
section
variable {X : Cx} {pins : List (Addr × Obj)} {σ : L2.St} {H : Hp} {s : Shared} {d : Addr} {o : Obj} {L : List KRow} {w : World}
end
section
variable {P : Program} {w : World} {K : PySem.W.Frag} {d : Addr} {o : Obj} {es : Array DictEntry} {ep : Nat}
end
section
variable {X : Cx} {e : Expr} {td : TE} {apos cpos : Pos}
end
section
variable [Tbs] {X : Cx} {C : Ct} {e : Expr} {apos cpos : Pos} {elts : List Expr} {kk : Nat} {tpos : Pos}
end
end Eg
namespace Eg
open PySem L2 PySem.W PySem.SeqAt PySem.Spec PyProof.Rows
section
variable [Tbs] {X : Cx} {C : Ct} {e : Expr}
end
end Eg
namespace Eg
open PySem L2 PySem.W PySem.SeqAt PySem.Spec PyProof.Rows
section
variable {X : Cx} {x1 x2 n : Str} {c1 c2 : Value} {i : Nat} {body suite : List Stmt} {b₀ : Stmt} {p1 p2 p3 pos pos' : Pos} {kk : Nat} {tb : WX → TS} {ts : Addr → Value → Option Addr → TS} {Wout : WX}
end
section
variable [Tbs] {X : Cx} {C : Ct} {P : List Nat} {x1 x2 n : Str} {c1 c2 : Value} {i : Nat} {body suite : List Stmt} {b₀ : Stmt} {p1 p2 p3 pos pos' : Pos} {kk : Nat} {mb ms : M Out} {hit : Xc → Bool}
end
end Eg
namespace Eg
open PySem L2 PySem.W PySem.SeqAt PySem.Spec PyProof.Rows
structure IsC (K : PySem.W.Frag) (D : Addr) : Prop where
  cl : (PySem.W.clsIn K D).isSome = true
  ga : PySem.W.findIn K (.ref D) "__getattribute__" = some (some (.builtin "BaseException.__getattribute__"))
  gg : PySem.W.findIn K (.ref D) "__getattr__" = some none
  su : PySem.W.subIn K (.ref D) (.type "BaseException") = some true
  at_ : PySem.W.findIn K (.ref D) "__class__" = some (some (.builtin "object.__class__"))
  ge : PySem.W.specialIn K (.builtin "object.__class__") "__get__" = some (some (.builtin "getset_descriptor.__get__"))
  tk : PySem.W.takesIn K (.builtin "object.__class__") = some true
  mr : PySem.W.mroIn K D (.type "object") = some true
section
variable {X : Cx} {a : Addr} {oe : Obj} {pn : List (Addr × Obj)}
end
section
variable [Tbs] {X : Cx} {a : Addr} {oe : Obj} {pn : List (Addr × Obj)} {i : Nat} {n : Str} {nms : List Str} {sub : Str → Bool} {W : WX} {XR : Hp → Hp → Value → Option Addr → Xc → Prop} {p1 p2 p3 pos : Pos} {li : Option LamI} {cE : Expr} {c : V} {cv : Value}
end
section
variable [Tbs] {X : Cx} {a : Addr} {oe : Obj} {pn : List (Addr × Obj)} {i : Nat} {n : Str} {nms : List Str} {sub : Str → Bool} {W : WX} {XR : Hp → Hp → Value → Option Addr → Xc → Prop} {p1 p2 p3 pos : Pos} {li : Option LamI} {es : List Expr} {kk : Nat} {cs : List V} {cvs : List Value}
end
end Eg
namespace Eg
open PySem L2 PySem.W PySem.SeqAt PySem.Spec PyProof.Rows
section
variable [Tbs] {X : Cx} {C : Ct} {e o : Expr} {apos cpos : Pos}
end
section
variable {ρ : Rho}
end
end Eg
namespace Eg
open PySem L2 PySem.W PySem.SeqAt PySem.Spec PyProof.Rows
section
variable {X : Cx} {x1 n : Str} {c1 : Value} {i : Nat} {body suite : List Stmt} {b₀ : Stmt} {p1 pos pos' : Pos} {rest : List ExceptHandler} {tb : WX → TS} {ts : Addr → Value → Option Addr → TS}
end
section
variable [Tbs] {X : Cx} {C : Ct} {P : List Nat} {x1 n : Str} {c1 : Value} {i : Nat} {body suite : List Stmt} {b₀ : Stmt} {p1 pos pos' : Pos} {rest : List ExceptHandler} {mb ms : M Out} {hit : Xc → Bool}
end
end Eg
namespace Eg
open PySem L2 PySem.W PySem.SeqAt PySem.Spec PyProof.Rows
section
variable [Tbs] {X : Cx} {C : Ct} {e o : Expr} {apos cpos : Pos}
end
section
variable {ρ : Rho}
end
end Eg
namespace Eg
open PySem L2 PySem.W PySem.SeqAt PySem.Spec PyProof.Rows
section
variable [Tbs] {K : Kw} {F H : Hp} {l : Option LamI}
variable {X : Cx} {P : List Nat} {ss : List Stmt} {m : M Out} {XR : Hp → Hp → Value → Option Addr → Xc → Prop}
end
section
variable {P : Program} {w : World} {K : PySem.W.Frag} {mg : Str → Option Value} {base : Heap} {CX : CXT} {k : Nat}
end
section
variable [Tbs] {P : Program} {w : World} {K : PySem.W.Frag} {mg : Str → Option Value} {base : Heap} {k : Nat} {XR : Hp → Hp → Value → Option Addr → Xc → Prop}
end
section
variable {K : PySem.W.Frag} {mg : Str → Option Value} {nm : Str} {C : Addr} {cv : Value} {cvs : List Value} {b : Bool}
theorem vs0 : ∀ us, Vals [] us → us = [] := fun us h => by cases h; rfl
end
section
variable {K : Frag}
end
section
variable {X : Cx} {A : Around} {outer : List Env} {s : Shared} {H : Hp} {E : XK} {scope : Scope} {f c' : Addr} {x : Str}
end
end Eg
namespace Eg
open PySem L2 PySem.W PySem.SeqAt PySem.Spec PyProof.Rows
section
variable [Tbs] {X : Cx} {C : Ct} {P : List Nat} {tg : Expr} {es : List Expr} {body : List Stmt} {p pos : Pos} {kk : Nat}
end
section
variable [Tbs] {X : Cx} {C : Ct} {e : Expr} {es : List Expr} {pos p : Pos} {k j : Nat} {f : Addr} {fd : FuncData} {ps : List Str} {x : Str} {n : Nat} {m : Fn}
end
section
variable [Tbs] {X : Cx} {C : Ct}
end
section
variable [Tbs] {X : Cx} {C : Ct} {e : Expr} {j nl : Nat} {is : List Nat}
end
end Eg
namespace Eg
open PySem L2 PySem.W PySem.SeqAt PySem.Spec PyProof.Rows
section
variable {X : Cx} {x1 x2 n : Str} {c1 c2 : Value} {i : Nat} {body suite suite2 : List Stmt} {b₀ b₁ : Stmt} {p1 p2 pos pos' pos2 : Pos} {tb : WX → TS} {ts ts2 : Addr → Value → Option Addr → TS}
end
section
variable [Tbs] {X : Cx} {C : Ct} {P : List Nat} {x1 x2 n : Str} {c1 c2 : Value} {i : Nat} {body suite suite2 : List Stmt} {b₀ b₁ : Stmt} {p1 p2 pos pos' pos2 : Pos} {mb ms ms2 : M Out} {hit : Xc → Bool}
end
section
variable [Tbs] {X : Cx} {C : Ct} {tg : Expr} {F : Hp}
def revItems : PyData → M (List PyData)
  | .list ds => M.ret ds.reverse
  | .tuple ds => M.ret ds.reverse
  | _ => M.bad
theorem rev_at {α : Type} {xs : List α} {i : Nat} {x : α} (h : xs.reverse[i]? = some x) : i < xs.length ∧ xs[xs.length - 1 - i]? = some x := by
  have hi : i < xs.length := by
    have := (List.getElem?_eq_some_iff.mp h).1
    rwa [List.length_reverse] at this
  exact ⟨hi, by rw [← h, List.getElem?_reverse hi]⟩
theorem walk_rl {K : Kw} {a : Addr} {vs : List V} {ds : List PyData} (h : F a = some (.lst vs)) (hd : DVs K F vs ds) : WalkD K F (Itv K a vs.length) ds.reverse := fun F2 H2 i s1 s2 => by
  have h2 : SqL K H2 a vs := SqL.of (s2 _ _ (s1 _ _ h))
  refine ⟨fun hl => by rw [List.length_reverse] at hl; show vs.length ≤ i; rw [hd.len]; exact hl, fun x hx => ?_⟩
  obtain ⟨hi, hx⟩ := rev_at hx
  obtain ⟨v, ev, dv⟩ := hd.get hx
  rw [← hd.len] at hi ev
  refine ⟨⟨hi, vs, v, h2, ev⟩, fun w H3 y => ?_⟩
  obtain ⟨e1, y⟩ := y
  subst e1
  have := y vs h2
  rw [ev] at this; cases this
  exact ⟨F2, .asis (DV.mono s1 dv)⟩
theorem walk_rt {K : Kw} {a : Addr} {vs : List V} {ds : List PyData} (h : SqT K F a vs) (hd : DVs K F vs ds) : WalkD K F (RT.ItvT K a vs.length) ds.reverse := fun F2 H2 i s1 s2 => by
  have h2 : SqT K H2 a vs := s2.sqT (s1.sqT h)
  refine ⟨fun hl => by rw [List.length_reverse] at hl; show vs.length ≤ i; rw [hd.len]; exact hl, fun x hx => ?_⟩
  obtain ⟨hi, hx⟩ := rev_at hx
  obtain ⟨v, ev, dv⟩ := hd.get hx
  rw [← hd.len] at hi ev
  refine ⟨⟨hi, vs, v, h2, ev⟩, fun w H3 y => ?_⟩
  obtain ⟨e1, y⟩ := y
  subst e1
  have := y vs h2
  rw [ev] at this; cases this
  exact ⟨F2, .asis (DV.mono s1 dv)⟩
theorem i_rev {e : Expr} {m : M PyData} {p pos : Pos} (hg : Gl X "reversed") (hm : X.mg "reversed" = none) (h : PE X e (tD C m)) (hK : X.KW = C.K := by rfl) (hs : starEach [e] X.env = (false, eval e X.env) :: starEach [] X.env := by rfl) :
    PI X tg (.Call (.Name "reversed" p) [e] [] pos) (tI C (m.bind revItems)) :=
  (RT.pi_revA hg hm h hs).imp fun σ H R ⟨F, ρ, sr, p⟩ => ⟨F, ρ, sr, p.part fun d ρ1 F1 H1 x e1 q1 g1 s1 r1 => by
    have q1 := q1.on stb_I g1
    rw [show X.K = C.K.fr from congrArg Kw.fr hK]
    cases r1 with
    | @lst a vs ds h1 h2 => exact ⟨a, vs, rfl, .inl ⟨SqL.of (s1.sub _ _ h1), q1 F1 H1 _ Grow.refl s1 (walk_rl h1 h2)⟩⟩
    | @tup a vs ds h1 h2 => exact ⟨a, vs, rfl, .inr ⟨s1.sub.sqT h1, q1 F1 H1 _ Grow.refl s1 (walk_rt h1 h2)⟩⟩
    | _ => exact q1.elim⟩
end
end Eg
namespace Eg
open PySem L2 PySem.W PySem.SeqAt PySem.Spec PyProof.Rows
section
variable [Tbs] {X : Cx} {pins : List (Addr × Obj)} {σ : L2.St} {F H : Hp} {s : Shared} {a b : Addr} {L : List KRow} {kvs : List (PyData × PyData)} {k d : PyData} {v : V} {u : Value}
variable {A : Around} {E : Value → Shared → Prop}
theorem kd_getN {Q : Value → Shared → Prop} (hu : A.units + 9 < cLine) (I : Inv X pins σ H s) (h : Rd H a (KO X.w a L)) (sub : Same F H) (t : KN X.KW F L kvs) (hk : DV X.KW F (.ref b) k) (ht : keyT k = true)
    (q : ∀ w v s', Inv X pins σ H s' → RelV w v → DV X.KW F w ((kAt kvs k).getD .none) → Q v s') : wpAny (model X.prog X.w) A (call (.builtin "dict.get") [.ref a, .ref b]) Q E s := by
  obtain ⟨far, size, xs, r, m⟩ := kd_at I h sub t
  obtain ⟨kb, kd, _⟩ := keyT_at ht
  refine call_meetsIn PySem.F.slot_dict_get m.typeIs PySem.F.entry_dict_get (PySem.F.args_dict_get_2 _ _) (meetsH_dict_get (nestedKind X.prog X.w) a b far) ⟨room_in1 hu, nk k, xs, key_at I (DV.mono sub hk) kb kd, m, ?_⟩
  have f := t.find k r
  cases z : atKey xs (nk k) with
  | none =>
    cases e : kAt kvs k with
    | none => exact q .non _ _ (I.tok _) rfl (by rw [e]; exact .non)
    | some d => rw [z, e] at f; exact f.elim
  | some p =>
    cases e : kAt kvs k with
    | none => rw [z, e] at f; exact f.elim
    | some d =>
      rw [z, e] at f
      obtain ⟨v, dv, rv⟩ := f
      exact q v _ _ (I.tok _) rv (by rw [e]; exact dv)
end
section
variable [Tbs] {X : Cx} {C : Ct} {e o : Expr} {pos apos : Pos}
end
section
variable {mg : Str → Option Value} {nm : Str} {C : Addr} {K : PySem.W.Frag} {c1 c2 : Value} {b : Bool}
end
section
variable {ρ : Rho}
end
end Eg
namespace Eg
open PySem L2 PySem.W PySem.SeqAt
def lcGoO (i : Nat) (t : Tgt) (tests : M Bool) (elt : M PyData) (vs : List Nat) : Nat → Nat → List PyData → M (List PyData)
  | 0, _, _ => M.bad
  | n + 1, k, acc => fun ρ => match ρ[i]? with
    | some (some (.ol ys)) => (match ys[k]? with
      | none => .ok acc ρ
      | some x => (match t x (wipeR ρ vs) with
        | none => .bad
        | some ρ1 => match tests ρ1 with
          | .ok false ρ2 => lcGoO i t tests elt vs n (k + 1) acc ρ2
          | .ok true ρ2 => (match elt ρ2 with
            | .ok d ρ3 => if acc.length < sizeLine then lcGoO i t tests elt vs n (k + 1) (acc ++ [d]) ρ3 else .bad
            | _ => .bad)
          | _ => .bad))
    | _ => .bad
def mCompO (i : Nat) (t : Tgt) (tests : M Bool) (elt : M PyData) (vs : List Nat) : M OD := fun ρ => match ρ[i]? with
  | some (some (.ol xs)) => if vs.contains i = false then (match lcGoO i t tests elt vs (xs.length + 1) 0 [] ρ with
    | .ok acc ρ' => if ρ'.length = ρ.length then .ok (.ol acc) (restR ρ ρ' vs) else .bad
    | _ => .bad) else .bad
  | _ => .bad
section
variable [Tbs] {X : Cx} {C : Ct} {e elt tg iter : Expr} {ifs : List Expr} {pos : Pos}
def wOl (K : W.Frag) (i : Nat) : TI := fun σ H R => tVar i σ H fun x H1 => ∃ a, x = .ref a ∧ (((∃ xs, SqL K H1 a xs) ∧ R (Itl K a) H1) ∨ ((∃ xs, SqT K H1 a xs) ∧ R (Itt K a) H1))
theorem lc_walkO {i : Nat} {g : TG} {t : Tgt} {mt : M Bool} {me : M PyData} {vs : List Nat} {n : Nat} {σ : St} {F1 H1 : Hp} {ρ1 : Rho} {xs : List PyData} {a0 : Addr} {Q : VK} (hn : σ.length = n) (ht : TgOk C.quiet (outs n vs) n g t) (hnc : vs.contains i = false) (hiv : i ∉ vs) (ei : ρ1[i]? = some (some (.ol xs))) (ev0 : σ[i]? = some (some (.ref a0))) (s1 : SR C.K F1 H1 σ ρ1)
    (q1 : PostE C (rO C.K) σ ρ1 F1 H1 Q (match lcGoO i t mt me vs (xs.length + 1) 0 [] ρ1 with
      | .ok acc ρ' => if ρ'.length = ρ1.length then .ok (.ol acc) (restR ρ1 ρ' vs) else .bad
      | _ => .bad)) (D : Addr) (hD : H1 D = none) : ∃ W : Nat → Nat → Hp → Prop, (∃ m, W 0 m (upd H1 D (.lst []))) ∧ ∀ k m H, W k m H → ((Itl C.K.fr a0).stop k H ∧ Q (.ref D) H) ∨ ((Itl C.K.fr a0).go k H ∧ ∃ Nx : Hp → Prop, (∀ H', Nx H' → ∃ m', m' < m ∧ W (k + 1) m' H') ∧ ∀ x H', (Itl C.K.fr a0).yld k H x H' →
      g x (wipe σ vs) H' fun σ2 H2 => wipe σ2 vs = wipe σ vs ∧ tT C.quiet mt σ2 H2 fun b H3 => if b = true then tD C.quiet me σ2 H3 fun y H4 => ∃ acc, H4 D = some (.lst acc) ∧ acc.length < sizeLine ∧ Nx (upd H4 D (.lst (acc ++ [y]))) else Nx H3) := by
  -- the whole run
  obtain ⟨accF, ρF, eF, hlF⟩ : ∃ accF ρF, lcGoO i t mt me vs (xs.length + 1) 0 [] ρ1 = .ok accF ρF ∧ ρF.length = ρ1.length := by
    cases e : lcGoO i t mt me vs (xs.length + 1) 0 [] ρ1 with
    | ok a r =>
      simp only [e] at q1
      split at q1
      · rename_i hz; exact ⟨a, r, rfl, hz⟩
      · exact q1.elim
    | _ => simp only [e] at q1; exact q1.elim
  simp only [eF, hlF, if_true] at q1
  have f1D : F1 D = none := s1.sub.free hD
  have nD1 : ¬ own (wipe σ vs) (wipeR ρ1 vs) D := fun z => by
    obtain ⟨_, u, hu⟩ := own.at (s1.wipes vs) z
    rw [hD] at hu; cases hu
  have sD : SR C.K F1 (upd H1 D (.lst [])) (wipe σ vs) (wipeR ρ1 vs) := (s1.fresh hD).wipes vs
  refine ⟨fun k m H' => ∃ F' ρ' acc accV, SR C.K F' H' (wipe σ vs) (wipeR ρ' vs) ∧ Grow (own (wipe σ vs) (wipeR ρ1 vs)) (own (wipe σ vs) (wipeR ρ' vs)) F1 H1 F' H' ∧
    ¬ own (wipe σ vs) (wipeR ρ' vs) D ∧ F' D = none ∧ H' D = some (.lst accV) ∧ DVs C.K F' accV acc ∧ lcGoO i t mt me vs m k acc ρ' = .ok accF ρF,
    ⟨xs.length + 1, F1, ρ1, [], [], sD, Grow.fresh hD, nD1, f1D, upd_same, .nil, eF⟩, ?_⟩
  rintro k m H' ⟨F', ρ', acc, accV, s', gw, nD, fD, eD, dv, er⟩
  cases m with
  | zero => cases er
  | succ m =>
  simp only [lcGoO] at er
  cases ek : ρ'[i]? with
  | none => simp only [ek] at er; cases er
  | some oo =>
  cases oo with
  | none => simp only [ek] at er; cases er
  | some o =>
  cases o with
  | ol ys =>
  simp only [ek] at er
  obtain ⟨v1, ev1, a1, vs1, ea1, fa1, ha1, dv1⟩ := s'.sl i (.ol ys) (by rw [wipeR_out hiv]; exact ek)
  rw [wipe_out hiv, ev0] at ev1
  cases ev1
  cases ea1
  have hsq : SqL C.K.fr H' a0 vs1 := SqL.of ha1
  by_cases hlt : k < ys.length
  · obtain ⟨x, ex⟩ : ∃ x, ys[k]? = some x := ⟨_, List.getElem?_eq_getElem hlt⟩
    obtain ⟨vx, evx, dvx⟩ := dv1.get ex
    have go : (Itl C.K.fr a0).go k H' := ⟨vs1, vx, hsq, evx⟩
    have yl : ∀ v H3, (Itl C.K.fr a0).yld k H' v H3 → ∃ F3, Alloc C.K F' H' F3 H3 v (.sh x) := fun w H3 y => by
      obtain ⟨e1, y⟩ := y
      subst e1
      have := y vs1 hsq
      rw [evx] at this; cases this
      exact ⟨F', .asis dvx⟩
    simp only [ex] at er
    refine .inr ⟨go, fun H2 => ∃ F' ρ' acc accV, SR C.K F' H2 (wipe σ vs) (wipeR ρ' vs) ∧ Grow (own (wipe σ vs) (wipeR ρ1 vs)) (own (wipe σ vs) (wipeR ρ' vs)) F1 H1 F' H2 ∧
      ¬ own (wipe σ vs) (wipeR ρ' vs) D ∧ F' D = none ∧ H2 D = some (.lst accV) ∧ DVs C.K F' accV acc ∧ lcGoO i t mt me vs m (k + 1) acc ρ' = .ok accF ρF, fun H2 h2 => ⟨m, Nat.lt_succ_self m, h2⟩, fun v H2 y => ?_⟩
    obtain ⟨F2, al⟩ := yl v H2 y
    cases et : t x (wipeR ρ' vs) with
    | none => simp only [et] at er; cases er
    | some ρ2 =>
      simp only [et] at er
      have st : SR C.K F2 H2 (wipe σ vs) (wipeR ρ' vs) ∧ Grow (own (wipe σ vs) (wipeR ρ' vs)) (own (wipe σ vs) (wipeR ρ' vs)) F' H' F2 H2 ∧ DV C.K F2 v x ∧ F2 D = none ∧ H2 D = some (.lst accV) := by
        cases al with
        | asis h => exact ⟨s', Grow.refl, h, fD, eD⟩
        | tup hp h =>
          have fp := s'.sub.free hp
          have ne := ne_of_none eD hp
          exact ⟨s'.laid hp, Grow.laid hp fp, .tup (.inl (.inl upd_same)) (h.upd fp), by rw [upd_ne ne]; exact fD, by rw [upd_ne ne]; exact eD⟩
      obtain ⟨s2, g2, dx, fD2, eD2⟩ := st
      refine ht v x (wipe σ vs) (wipeR ρ' vs) ρ2 F2 H2 _ (by rw [wipe_length]; exact hn) s2 dx et fun σ3 s3 o3 p3 => ?_
      have ew : wipe σ3 vs = wipe σ vs := by
        rw [← wipe_wipe σ vs]
        exact wipe_ext p3.1 fun j hj q => p3.2 j (mem_outs (by rw [wipe_length, hn] at hj; exact hj) q)
      have g3 : Grow (own (wipe σ vs) (wipeR ρ' vs)) (own σ3 ρ2) F' H' F2 H2 := g2.less o3
      have nD3 : ¬ own σ3 ρ2 D := fun z => nD (o3 D z)
      refine ⟨ew, F2, ρ2, s3, ?_⟩
      -- behind the tests
      cases emt : mt ρ2 with
      | bad => simp only [emt] at er; cases er
      | ex x r => simp only [emt] at er; cases er
      | ok k ρ3 =>
        simp only [emt] at er
        intro F3 H3 k' g4 s4 ek
        subst ek
        have nD4 : ¬ own σ3 ρ3 D := fun z => (g4.ows D z).elim nD3 fun y => by rw [eD2] at y; cases y
        have fD4 : F3 D = none := by
          cases q : F3 D with
          | none => rfl
          | some u =>
            rcases g4.new D (by rw [q]; simp) with z | z | z
            · exact absurd fD2 z
            · rw [eD2] at z; cases z
            · exact absurd z nD3
        have eD4 : H3 D = some (.lst accV) := g4.keep D _ eD2 (fun _ z => by cases z) nD3
        have back : ∀ {F5 H5 : Hp} {ρ5 : Rho}, SR C.K F5 H5 σ3 ρ5 → SR C.K F5 H5 (wipe σ vs) (wipeR ρ5 vs) := fun {F5 H5 ρ5} s => by
          have := s.wipes vs
          rw [ew] at this
          exact this
        have lessW : ∀ {ρ5 : Rho} {b : Addr}, own (wipe σ vs) (wipeR ρ5 vs) b → own σ3 ρ5 b := fun {ρ5 b} z => by
          rw [← ew] at z
          exact (own.wipes z).1
        cases k' with
        | false =>
          simp only at er
          rw [if_neg Bool.false_ne_true]
          exact ⟨F3, ρ3, acc, accV, back s4, (gw.trans (g3.trans g4)).less fun b z => lessW z, fun z => nD4 (lessW z), fD4, eD4, DVs.mono (g3.trans g4).ext dv, er⟩
        | true =>
          simp only at er
          rw [if_pos rfl]
          refine ⟨F3, ρ3, s4, ?_⟩
          cases eme : me ρ3 with
          | bad => simp only [eme] at er; cases er
          | ex x r => simp only [eme] at er; cases er
          | ok d ρ5 =>
            simp only [eme] at er
            split at er
            · rename_i hz
              intro F5 H5 y5 g5 s5 r5
              have nD5 : ¬ own σ3 ρ5 D := fun z => (g5.ows D z).elim nD4 fun y => by rw [eD4] at y; cases y
              have fD5 : F5 D = none := by
                cases q : F5 D with
                | none => rfl
                | some u =>
                  rcases g5.new D (by rw [q]; simp) with z | z | z
                  · exact absurd fD4 z
                  · rw [eD4] at z; cases z
                  · exact absurd z nD4
              have eD5 : H5 D = some (.lst accV) := g5.keep D _ eD4 (fun _ z => by cases z) nD4
              have gl := g3.trans (g4.trans g5)
              have s6 : SR C.K F5 (upd H5 D (.lst (accV ++ [y5]))) σ3 ρ5 := s5.on (Same.refl _) (fun b u q => by rw [upd_ne (ne_of_none q fD5)]; exact s5.sub b u q) (s5.tb.wr eD5 (fun _ z => by cases z)) fun a ha => by
                obtain ⟨fa, u, hu⟩ := own.at s5 ha
                exact ⟨fa, fun u' q _ => by rw [upd_ne (fun z => nD5 (by rw [← z]; exact ha))]; exact q⟩
              refine ⟨accV, eD5, by rw [dv.len]; exact hz, F5, ρ5, acc ++ [d], accV ++ [y5], back s6, ?_, fun z => nD5 (lessW z), fD5, upd_same, (DVs.mono gl.ext dv).append (.cons r5 .nil), er⟩
              have gall := gw.trans gl
              refine ⟨gall.ext, fun b o q t n => ?_, fun b ps q n => ?_, gall.new, fun b z => gall.ows b (lessW z)⟩
              · rw [upd_ne (ne_of_none q hD)]
                exact gall.keep b o q t n
              · rw [upd_ne (ne_of_none q hD)]
                exact gall.kt b ps q n
            · cases er
  · have ex : ys[k]? = none := List.getElem?_eq_none (by omega)
    simp only [ex] at er
    cases er
    obtain ⟨sf, gf⟩ := s1.rest s' hlF gw
    refine .inl ⟨⟨vs1, hsq, by rw [dv1.len]; omega⟩, q1 F' H' (.ref D) gf sf ⟨⟨D, accV, rfl, fD, eD, dv⟩, fun _ a ea => ?_⟩⟩
    cases ea
    refine ⟨fun z => ?_, .inl hD⟩
    rcases gf.ows D z with y | y
    · obtain ⟨_, u, hu⟩ := own.at s1 y
      rw [hD] at hu; cases hu
    · -- new and a slot's own: then one of the block's, which none is
      obtain ⟨j, o, e1, e2, e3⟩ := z
      by_cases q : j ∈ vs
      · obtain ⟨_, u, hu⟩ := own.at s1 ⟨j, o, restR_in q e1, e2, e3⟩
        rw [hD] at hu; cases hu
      · rw [restR_out q] at e1
        exact nD ⟨j, o, by rw [wipeR_out q]; exact e1, e2, by rw [wipe_out q]; exact e3⟩
  | _ => simp only [ek] at er; cases er
theorem lc_readO {i : Nat} {g : TG} {t : Tgt} {mt : M Bool} {me : M PyData} {vs : List Nat} {n : Nat} {σ : St} {H : Hp} {Q : VK} (hn : σ.length = n) (ht : TgOk C.quiet (outs n vs) n g t)
    (h : tO C (mCompO i t mt me vs) σ H Q) : tLc (wOl C.K.fr i) g (tT C.quiet mt) (tD C.quiet me) vs σ H Q := by
  obtain ⟨F, ρ, sr, p⟩ := h
  obtain ⟨F1, ρ1, s1, p⟩ : ∃ F ρ, SR C.K F H σ ρ ∧ PostE C (rO C.K) σ ρ F H Q (mCompO i t mt me vs ρ) := ⟨F, ρ, sr, p⟩
  obtain ⟨H1, eH⟩ : ∃ H1, H1 = H := ⟨_, rfl⟩
  subst eH
  have q1 := p
  simp only [mCompO] at q1
  cases ei : ρ1[i]? with
  | none => simp only [ei] at q1; exact q1.elim
  | some oo =>
  cases oo with
  | none => simp only [ei] at q1; exact q1.elim
  | some o =>
  cases o with
  | ol xs =>
    simp only [ei] at q1
    split at q1
    case isFalse => exact q1.elim
    rename_i hnc
    have hiv : i ∉ vs := by simpa using hnc
    obtain ⟨v0, ev0, a0, vs0, ea0, fa0, ha0, dv0⟩ := s1.sl i _ ei
    subst ea0
    refine ⟨_, ev0, a0, rfl, .inl ⟨⟨vs0, SqL.of ha0⟩, fun D hD => ?_⟩⟩
    exact lc_walkO hn ht hnc hiv ei ev0 s1 q1 D hD
  | _ => simp only [ei] at q1; exact q1.elim
theorem o_compO {i : Nat} {g : TG} {t : Tgt} {mt : M Bool} {me : M PyData} {n : Nat} {scope : Scope} {own : List (Str × Nat)} (hc : X.calm = true) (hN : X.N.Nodup) (hi : PE X iter (tVar i)) (ok : BlkOk X.N X.env.scope scope own)
    (hg : ∀ (s : Shared) (H : Hp) (D : Addr) (cl : List (Str × Addr)) (fp : List Addr), PG (X.blk s H scope (compEnvC scope cl D X.env) fp) tg g) (htg : TgOk C.quiet (outs n (own.map (·.2))) n g t)
    (ht : ∀ (s : Shared) (H : Hp) (D : Addr) (cl : List (Str × Addr)) (fp : List Addr), PTs (X.blk s H scope (compEnvC scope cl D X.env) fp) ifs (tT C.quiet mt))
    (he : ∀ (s : Shared) (H : Hp) (D : Addr) (cl : List (Str × Addr)) (fp : List Addr), PE (X.blk s H scope (compEnvC scope cl D X.env) fp) elt (tD C.quiet me)) (hL : X.N.length = n := by rfl) (hs : ∀ x, foldedSetIterable iter X.env x = pure x := by intro _; rfl) (hK : X.KW = C.K := by rfl) :
    PE X (.ListComp elt [⟨tg, iter, ifs, 0⟩] scope pos) (tO C (mCompO i t mt me (own.map (·.2)))) :=
  ⟨fun pins s σ H Q I q => (pe_lc hc hN (pi_seq hi) ok hg ht he hs).run pins s σ H Q I (by
    have z := lc_readO (by rw [I.len, hL]) htg q
    rw [show X.K = C.K.fr from congrArg Kw.fr hK]
    exact z)⟩
theorem s_setCO {i j : Nat} {y : Str} {P : List Nat} {py spos : Pos} {g : TG} {t : Tgt} {mt : M Bool} {me : M PyData} {n : Nat} {scope : Scope} {own : List (Str × Nat)} (hc : X.calm = true) (hN : X.N.Nodup) (hy : X.N[j]? = some y) (hyl : X.env.scope.names.lookup y = some .local)
    (hsw : swapsWith (.ListComp elt [⟨tg, iter, ifs, 0⟩] scope pos) (some (.Name y py)) spos.line X.env = pure true) (hi : PE X iter (tVar i)) (ok : BlkOk X.N X.env.scope scope own)
    (hg : ∀ (s : Shared) (H : Hp) (D : Addr) (cl : List (Str × Addr)) (fp : List Addr), PG (X.blk s H scope (compEnvC scope cl D X.env) fp) tg g) (htg : TgOk C.quiet (outs n (own.map (·.2))) n g t)
    (ht : ∀ (s : Shared) (H : Hp) (D : Addr) (cl : List (Str × Addr)) (fp : List Addr), PTs (X.blk s H scope (compEnvC scope cl D X.env) fp) ifs (tT C.quiet mt))
    (he : ∀ (s : Shared) (H : Hp) (D : Addr) (cl : List (Str × Addr)) (fp : List Addr), PE (X.blk s H scope (compEnvC scope cl D X.env) fp) elt (tD C.quiet me)) (hP : j ∉ P := by decide) (hL : X.N.length = n := by rfl) (hs : ∀ x, foldedSetIterable iter X.env x = pure x := by intro _; rfl) (hK : X.KW = C.K := by rfl) :
    PS X (.Assign [.Name y py] (.ListComp elt [⟨tg, iter, ifs, 0⟩] scope pos) spos) (tS C P (sSet j (mCompO i t mt me (own.map (·.2))))) := by
  refine ⟨fun pins s σ H D I ⟨F, ρ, sr, p⟩ => (ps_setLc hc hN hy hyl hsw (pi_seq hi) ok hg ht he hs).run pins s σ H D I ?_⟩
  have q := PostS.set p (by rw [I.len]; exact (List.getElem?_eq_some_iff.mp hy).1) hP
  have z := lc_readO (by rw [I.len, hL]) htg ⟨F, ρ, sr, q⟩
  rw [show X.K = C.K.fr from congrArg Kw.fr hK]
  exact z
end
end Eg
namespace Eg
open PySem L2 PySem.W PySem.SeqAt
open PyProof.Rows (envOfC)
def lendO : Option (Option OD) → Nat → Option Nat
  | some (some o), i => if o.isO = true then some i else none
  | _, _ => none
def lend1 (ρ : Rho) : Arg → Option Nat
  | .slot i => lendO ρ[i]? i
  | _ => none
def lendL (ρ : Rho) : List Arg → List (Option Nat)
  | [] => []
  | a :: as => lend1 ρ a :: lendL ρ as
def apart : List (Option Nat) → Bool
  | [] => true
  | some i :: r => !(r.contains (some i)) && apart r
  | none :: r => apart r
def argL (ρ : Rho) (a : Arg) : Option OD := match argO ρ a with
  | some o => if o.isO = true then some o else argS ρ a
  | none => none
def argsL (ρ : Rho) : List Arg → Option (List OD)
  | [] => some []
  | a :: as => match argL ρ a, argsL ρ as with
    | some o, some os => some (o :: os)
    | _, _ => none
def backL (ρ : Rho) : List (Option Nat) → Rho → Rho
  | [], _ => ρ
  | some i :: r, ρa => (backL ρ r (ρa.drop 1)).set i (ρa[0]?.join)
  | none :: r, ρa => backL ρ r (ρa.drop 1)
def mCallL (f : Fn) (ms : M (List Arg)) : M OD := ms.bind fun as => fun ρ => if apart (lendL ρ as) = true then (match argsL ρ as with
  | some os => (match f (os.map some) with
    | .ok r ρa => .ok r (backL ρ (lendL ρ as) ρa)
    | .ex x ρa => .ex x (backL ρ (lendL ρ as) ρa)
    | .bad => .bad)
  | none => .bad) else .bad
theorem apart_at : ∀ {L : List (Option Nat)}, apart L = true → ∀ {k k' i : Nat}, L[k]? = some (some i) → L[k']? = some (some i) → k = k'
  | [], _, k, k', i, e, _ => by simp at e
  | some j :: r, h, k, k', i, e, e' => by
    simp only [apart, Bool.and_eq_true, Bool.not_eq_true'] at h
    obtain ⟨h1, h2⟩ := h
    have hn : some j ∉ r := by simpa using h1
    cases k with
    | zero =>
      cases k' with
      | zero => rfl
      | succ k' =>
        simp at e e'
        subst e
        exact absurd (List.mem_of_getElem? e') hn
    | succ k =>
      cases k' with
      | zero =>
        simp at e e'
        subst e'
        exact absurd (List.mem_of_getElem? e) hn
      | succ k' =>
        simp at e e'
        rw [apart_at h2 e e']
  | none :: r, h, k, k', i, e, e' => by
    cases k with
    | zero => simp at e
    | succ k =>
      cases k' with
      | zero => simp at e'
      | succ k' =>
        simp at e e'
        rw [apart_at (L := r) h e e']
theorem backL_len {ρ : Rho} : ∀ (L : List (Option Nat)) (ρa : Rho), (backL ρ L ρa).length = ρ.length
  | [], _ => rfl
  | some i :: r, ρa => by rw [backL, List.length_set, backL_len r]
  | none :: r, ρa => by rw [backL, backL_len r]
theorem backL_at {ρ : Rho} : ∀ {L : List (Option Nat)} {ρa : Rho} {j : Nat} {u : OD}, (backL ρ L ρa)[j]? = some (some u) → (∃ k : Nat, L[k]? = some (some j) ∧ ρa[k]? = some (some u)) ∨ ((∀ k : Nat, L[k]? ≠ some (some j)) ∧ ρ[j]? = some (some u))
  | [], ρa, j, u, e => .inr ⟨fun k z => by simp at z, e⟩
  | some i :: r, ρa, j, u, e => by
    rw [backL] at e
    by_cases q : i = j
    · subst q
      by_cases l : i < (backL ρ r (ρa.drop 1)).length
      · rw [List.getElem?_set_self l] at e
        have e := Option.some.inj e
        refine .inl ⟨0, rfl, ?_⟩
        cases q2 : ρa[0]? with
        | none => rw [q2] at e; cases e
        | some z => rw [q2] at e; exact congrArg some e
      · rw [List.getElem?_eq_none (by rw [List.length_set]; omega)] at e; cases e
    · rw [List.getElem?_set_ne q] at e
      rcases backL_at e with ⟨k, h1, h2⟩ | ⟨h1, h2⟩
      · exact .inl ⟨k + 1, h1, by rw [List.getElem?_drop, Nat.add_comm] at h2; exact h2⟩
      · refine .inr ⟨fun k z => ?_, h2⟩
        cases k with
        | zero => simp at z; exact q z
        | succ k => exact h1 k (by simpa using z)
  | none :: r, ρa, j, u, e => by
    rw [backL] at e
    rcases backL_at e with ⟨k, h1, h2⟩ | ⟨h1, h2⟩
    · exact .inl ⟨k + 1, h1, by rw [List.getElem?_drop, Nat.add_comm] at h2; exact h2⟩
    · refine .inr ⟨fun k z => ?_, h2⟩
      cases k with
      | zero => simp at z
      | succ k => exact h1 k (by simpa using z)
section
variable [Tbs] {K : Kw} {F F' H H' : Hp} {σ : St} {ρ ρa : Rho}
theorem argsL_at (s : SR K F H σ ρ) : ∀ {vs : List V} {as : List Arg} {os : List OD}, rAs K F σ vs as → argsL ρ as = some os → os.length = vs.length ∧ (∀ (j : Nat) (o : OD), os[j]? = some o → ∃ v, vs[j]? = some v ∧ OR K F H v o) ∧
    (∀ (j : Nat) (o : OD), os[j]? = some o → o.isO = true → ∃ i, (lendL ρ as)[j]? = some (some i) ∧ ρ[i]? = some (some o) ∧ ∃ v, vs[j]? = some v ∧ σ[i]? = some (some v)) ∧
    (∀ (j i : Nat), (lendL ρ as)[j]? = some (some i) → ∃ o v, os[j]? = some o ∧ o.isO = true ∧ ρ[i]? = some (some o) ∧ vs[j]? = some v ∧ σ[i]? = some (some v)) := fun {vs as} => by
  induction vs generalizing as with
  | nil =>
    intro os r e
    cases r; cases e
    exact ⟨rfl, fun j o h => by simp at h, fun j o h => by simp at h, fun j i h => by simp [lendL] at h⟩
  | cons v vs ih =>
    intro os r e
    have hd : ∃ a as', as = a :: as' ∧ rA K F H σ ρ ρ H v a ∧ rAs K F σ vs as' := by
      cases r with
      | dat h t => exact ⟨_, _, rfl, h, t⟩
      | slot h t => exact ⟨_, _, rfl, h, t⟩
      | fr h t => exact ⟨_, _, rfl, h, t⟩
    obtain ⟨a, as', rfl, ha, ht⟩ := hd
    simp only [argsL] at e
    cases e1 : argL ρ a with
    | none => simp only [e1] at e; cases e
    | some o =>
      cases e2 : argsL ρ as' with
      | none => simp only [e1, e2] at e; cases e
      | some os' =>
        simp only [e1, e2] at e; cases e
        obtain ⟨h1, h2, h3, h4⟩ := ih ht e2
        -- the head
        have hh : OR K F H v o ∧ ((o.isO = true ∧ ∃ i, lend1 ρ a = some i ∧ ρ[i]? = some (some o) ∧ σ[i]? = some (some v)) ∨ (o.isO = false ∧ lend1 ρ a = none)) := by
          unfold argL at e1
          cases e3 : argO ρ a with
          | none => simp only [e3] at e1; cases e1
          | some o2 =>
            simp only [e3] at e1
            have ro := argO_at s ha e3
            by_cases q : o2.isO = true
            · rw [if_pos q] at e1
              cases e1
              refine ⟨ro, .inl ⟨q, ?_⟩⟩
              cases a with
              | dat d => simp only [argO] at e3; cases e3; cases q
              | fr kvs => simp only [argO] at e3; cases e3; cases q
              | slot i =>
                simp only [argO] at e3
                cases q2 : ρ[i]? with
                | none => rw [q2] at e3; cases e3
                | some x =>
                  rw [q2] at e3
                  have ex : x = some o := e3
                  subst ex
                  exact ⟨i, by simp only [lend1, lendO, q2]; rw [if_pos q], q2, ha⟩
            · rw [if_neg q] at e1
              have nl : lend1 ρ a = none := by
                cases a with
                | dat d => rfl
                | fr kvs => rfl
                | slot i =>
                  simp only [argO] at e3
                  cases q2 : ρ[i]? with
                  | none => rw [q2] at e3; cases e3
                  | some x =>
                    rw [q2] at e3
                    have ex : x = some o2 := e3
                    subst ex
                    simp only [lend1, lendO, q2]
                    rw [if_neg q]
              unfold argS at e1
              rw [e3] at e1
              cases o2 <;> cases e1 <;> exact ⟨ro, .inr ⟨rfl, nl⟩⟩
        obtain ⟨k1, k2⟩ := hh
        refine ⟨by rw [List.length_cons, List.length_cons, h1], fun j o' h => ?_, fun j o' h io => ?_, fun j i h => ?_⟩
        · cases j with
          | zero => cases h; exact ⟨v, rfl, k1⟩
          | succ j => exact h2 j o' h
        · cases j with
          | zero =>
            cases h
            rcases k2 with ⟨_, i, z1, z2, z3⟩ | ⟨z, _⟩
            · exact ⟨i, by simp only [lendL, z1]; rfl, z2, v, rfl, z3⟩
            · rw [z] at io; cases io
          | succ j => exact h3 j o' h io
        · cases j with
          | zero =>
            rcases k2 with ⟨io, i', z1, z2, z3⟩ | ⟨_, z⟩
            · simp only [lendL, z1] at h
              cases h
              exact ⟨o, v, rfl, io, z2, rfl, z3⟩
            · simp only [lendL, z] at h
              simp at h
          | succ j => exact h4 j i h
end
section
variable [Tbs] {X : Cx} {C : Ct} {e a b : Expr} {es : List Expr} {pos p : Pos} {k : Nat} {f : Addr} {fd : FuncData} {ps : List Str} {x : Str} {n : Nat} {m : Fn}
theorem o_fnL {ms : M (List Arg)} (F : FnG X.prog X.w X.K X.mg X.base (L2.CX X.prog X.w) k f fd ps (spI X.K X.w X.mg C.XR n m)) (hG : X.A.guards = some []) (hr : Room k X.A) (hg : Gl X x) (hm : X.mg x = some (.ref f)) (hk : PySem.W.keepIn X.K (.ref f) = true) (hb : Binds X.K fd ps []) (tk : Takes X C.W) (ha : PA X (e :: es) (tL C ms)) (hl : (e :: es).length = n)
    (hll : ∀ ρ as ρ', ms ρ = .ok as ρ' → as.length = n)
    (hdb : (x == ("__debug__" : Str)) = false := by decide) (he : starEach (e :: es) X.env = (false, eval e X.env) :: starEach es X.env := by rfl) (hpl : (backTo pos (starEach es X.env)).any (·.1) = false := by rfl) (hK : (⟨X.K, X.w, X.mg, none, none⟩ : Kw) = C.K := by rfl) : PE X (.Call (.Name x p) (e :: es) [] pos) (tO C (mCallL m ms)) := by
  refine o_call1 (G := mCallL m) F hG hr hg hm hk hb tk ha (fun σ ρ F0 H Q sr pp => ?_) hdb he hpl
  refine PostE.part (RA := rL C.K) pp fun as ρ1 F1 H1 xs e1 q1 g1 s1 r1 => ?_
  have q1 := q1.on stb_O g1
  split at q1
  case isFalse => exact q1.elim
  rename_i hap
  cases e2 : argsL ρ1 as with
  | none => simp only [e2] at q1; exact q1.elim
  | some os =>
    simp only [e2] at q1
    obtain ⟨h1, h2, h3, h4⟩ := argsL_at s1 r1 e2
    have lo : ∀ {j : Nat} {o : OD}, (os.map some)[j]? = some (some o) → os[j]? = some o := fun {j o} e => by
      rw [List.getElem?_map] at e
      cases q : os[j]? with
      | none => rw [q] at e; cases e
      | some z => rw [q] at e; cases e; rfl
    have sv : ∀ {j : Nat} {v : V}, (xs.map some)[j]? = some (some v) → xs[j]? = some v := fun {j v} e => by
      rw [List.getElem?_map] at e
      cases q : xs[j]? with
      | none => rw [q] at e; cases e
      | some z => rw [q] at e; cases e; rfl
    have vs' : ∀ {j : Nat} {v : V}, xs[j]? = some v → (xs.map some)[j]? = some (some v) := fun {j v} e => by rw [List.getElem?_map, e]; rfl
    have sa : SR C.K F1 H1 (xs.map some) (os.map some) := by
      refine ⟨s1.sub, by simp [h1], fun j o e => ?_, fun j k o o' c ne e i1 e' i2 z1 z2 => ?_, s1.tb⟩
      · obtain ⟨v, e1, r⟩ := h2 j o (lo e)
        exact ⟨v, vs' e1, r⟩
      · obtain ⟨i, l1, l2, v, l3, l4⟩ := h3 j o (lo e) i1
        obtain ⟨i', m1, m2, v', m3, m4⟩ := h3 k o' (lo e') i2
        have nn : i ≠ i' := fun z => ne (apart_at hap l1 (z ▸ m1))
        have y1 := sv z1; rw [l3] at y1; cases y1
        have y2 := sv z2; rw [m3] at y2; cases y2
        exact s1.sep i i' o o' c nn l2 i1 m2 i2 l4 m4
    have oi : ∀ c, own (xs.map some) (os.map some) c → ∃ (j i : Nat) (o : OD), (lendL ρ1 as)[j]? = some (some i) ∧ ρ1[i]? = some (some o) ∧ o.isO = true ∧ σ[i]? = some (some (V.ref c)) ∧ xs[j]? = some (V.ref c) := fun c ⟨j, o, e, i1, e'⟩ => by
      obtain ⟨i, l1, l2, v, l3, l4⟩ := h3 j o (lo e) i1
      have y1 := sv e'; rw [l3] at y1; cases y1
      exact ⟨j, i, o, l1, l2, i1, l4, l3⟩
    have oo : ∀ c, own (xs.map some) (os.map some) c → own σ ρ1 c := fun c z => by
      obtain ⟨j, i, o, l1, l2, l3, l4, _⟩ := oi c z
      exact ⟨i, o, l2, l3, l4⟩
    obtain ⟨L, eL⟩ : ∃ L, L = lendL ρ1 as := ⟨_, rfl⟩
    rw [← eL] at q1 hap h3 h4 oi
    have aft : ∀ {F' H' : Hp} {ρa : Rho}, Grow (own (xs.map some) (os.map some)) (own (xs.map some) ρa) F1 H1 F' H' → SR C.K F' H' (xs.map some) ρa →
        SR C.K F' H' σ (backL ρ1 L ρa) ∧ Grow (own σ ρ1) (own σ (backL ρ1 L ρa)) F1 H1 F' H' ∧ (∀ c, own σ (backL ρ1 L ρa) c → own σ ρ1 c) ∧
        ∀ c, own σ (backL ρ1 L ρa) c → own (xs.map some) ρa c ∨ (¬ own (xs.map some) (os.map some) c ∧ own σ ρ1 c) := fun {F' H' ρa} g' s' => by
      have old : ∀ {j : Nat} {u : OD}, (backL ρ1 L ρa)[j]? = some (some u) → u.isO = true → ∃ o, ρ1[j]? = some (some o) ∧ o.isO = true := fun {j u} e io => by
        rcases backL_at e with ⟨k, e5, _⟩ | ⟨_, e5⟩
        · obtain ⟨o, v, _, z2, z3, _⟩ := h4 k j e5
          exact ⟨o, z3, z2⟩
        · exact ⟨u, e5, io⟩
      have ow1 : ∀ c, own σ (backL ρ1 L ρa) c → own σ ρ1 c := fun c ⟨j, u, e, i1, e'⟩ => by
        obtain ⟨o, z1, z2⟩ := old e i1
        exact ⟨j, o, z1, z2, e'⟩
      have apt : ∀ {c : Addr} {j : Nat} {u : OD}, (∀ k : Nat, L[k]? ≠ some (some j)) → ρ1[j]? = some (some u) → u.isO = true → σ[j]? = some (some (V.ref c)) → ¬ own (xs.map some) (os.map some) c := fun {c j u} nl e iu ec z => by
        obtain ⟨k, i, o, l1, l2, l3, l4, _⟩ := oi c z
        exact s1.sep j i u o c (fun z => nl k (z ▸ l1)) e iu l2 l3 ec l4
      refine ⟨⟨s'.sub, by rw [backL_len]; exact s1.len, fun j u e => ?_, fun j k u u' c ne e i1 e' i2 e3 e4 => ?_, s'.tb⟩, ⟨g'.ext, fun b u e t n => g'.keep b u e t fun z => n (oo b z), fun b ps e n => g'.kt b ps e fun z => n (oo b z), fun b h => ?_, fun b h => .inl (ow1 b h)⟩, ow1, fun c ⟨j, u, e, i1, e'⟩ => ?_⟩
      · rcases backL_at e with ⟨k, e5, e6⟩ | ⟨nl, e5⟩
        · obtain ⟨o, v, _, _, _, z4, z5⟩ := h4 k j e5
          obtain ⟨v', e1, r⟩ := s'.sl k u e6
          have y1 := sv e1; rw [z4] at y1; cases y1
          exact ⟨v, z5, r⟩
        · obtain ⟨v, e1, r⟩ := s1.sl j u e5
          refine ⟨v, e1, r.keep g'.ext fun c ec iu => ?_⟩
          subst ec
          have nn := apt nl e5 iu e1
          obtain ⟨f1, w, hw⟩ := own.at s1 ⟨j, u, e5, iu, e1⟩
          refine ⟨?_, fun w' h t => g'.keep c w' h t nn⟩
          cases q : F' c with
          | none => rfl
          | some z =>
            rcases g'.new c (by rw [q]; simp) with w2 | w2 | w2
            · exact absurd f1 w2
            · rw [hw] at w2; cases w2
            · exact absurd w2 nn
      · obtain ⟨o, z1, z2⟩ := old e i1
        obtain ⟨o', z3, z4⟩ := old e' i2
        exact s1.sep j k o o' c ne z1 z2 z3 z4 e3 e4
      · rcases g'.new b h with w | w | w
        · exact .inl w
        · exact .inr (.inl w)
        · exact .inr (.inr (oo b w))
      · rcases backL_at e with ⟨k, e5, e6⟩ | ⟨nl, e5⟩
        · obtain ⟨o, v, _, _, _, z4, z5⟩ := h4 k j e5
          rw [z5] at e'
          have e' := Option.some.inj (Option.some.inj e')
          exact .inl ⟨k, u, e6, i1, by rw [← e']; exact vs' z4⟩
        · exact .inr ⟨apt nl e5 i1 e', ⟨j, u, e5, i1, e'⟩⟩
    refine ⟨by rw [r1.len]; exact hll _ _ _ e1, F1, os, (show (⟨X.K, X.w, X.mg, none, none⟩ : Kw) = C.K from hK) ▸ sa, ?_⟩
    rw [show (⟨X.K, X.w, X.mg, none, none⟩ : Kw) = C.K from hK]
    cases e3 : m (os.map some) with
    | bad => simp only [e3] at q1; exact q1.elim
    | ok r ρa =>
      simp only [e3] at q1
      intro F' H' v g' s' ro
      obtain ⟨s2, g2, a3, a4⟩ := aft g' s'
      refine q1 F' H' v g2 s2 ⟨ro.1, fun ir c ec => ?_⟩
      obtain ⟨n1, n2⟩ := ro.2 ir c ec
      refine ⟨fun z => ?_, n2.imp id (oo c)⟩
      rcases a4 c z with w | ⟨w1, w2⟩
      · exact n1 w
      · rcases n2 with n2 | n2
        · obtain ⟨_, u, hu⟩ := own.at s1 w2
          rw [n2] at hu; cases hu
        · exact w1 n2
    | ex y ρa =>
      simp only [e3] at q1
      intro F' H' cls d g' s' xr
      obtain ⟨s2, g2, a3, a4⟩ := aft g' s'
      exact q1 F' H' cls d g2 s2 xr
end
end Eg
namespace Eg
open PySem L2 PySem.W PySem.SeqAt
theorem blk_look2 {scope2 scope1 : Scope} {env : Env} {cl : List (Str × Addr)} {D : Addr} {sc : Scope} {x : Str} {k : NameKind} (hs : env.scope = sc)
    (h : (scope2.names.map fun (n, k) => if (k == .free && (relS scope1 sc).kind == .function && (relS scope1 sc).names.lookup n == some .cell) then (n, .cell) else (n, k)).lookup x = some k) :
    (relabel scope2 (compEnvC scope1 cl D env)).names.lookup x = some k := by subst hs; exact h
theorem blk_gl2 {X : Cx} {scope2 scope1 : Scope} {env : Env} {cl : List (Str × Addr)} {D : Addr} {sc : Scope} {x : Str} (hX : X.env.scope = relabel scope2 (compEnvC scope1 cl D env)) (hs : env.scope = sc)
    (h : (scope2.names.map fun (n, k) => if (k == .free && (relS scope1 sc).kind == .function && (relS scope1 sc).names.lookup n == some .cell) then (n, .cell) else (n, k)).lookup x = some .globalImplicit) : Gl X x := by
  show X.env.scope.names.lookup x = _
  rw [hX]
  exact blk_look2 hs h
theorem blkOk2 {N : List Str} {scope1 scope2 : Scope} {env : Env} {cl : List (Str × Addr)} {D : Addr} {sc : Scope} {own : List (Str × Nat)} (hs : env.scope = sc) (h : blkC N (relS scope1 sc) scope2 own = true) : BlkOk N (compEnvC scope1 cl D env).scope scope2 own := by
  subst hs
  exact blkOk_by h
end Eg
namespace Eg
open PySem L2 PySem.W PySem.SeqAt PySem.Spec PyProof.Rows
def mPop (i : Nat) : M PyData := fun ρ => match ρ[i]? with
  | some (some (.ol xs)) => (match xs[xs.length - 1]? with
    | some y => .ok y (ρ.set i (some (.ol xs.dropLast)))
    | none => .bad)
  | _ => .bad
section
variable [Tbs] {X : Cx} {C : Ct} {e o : Expr} {pos apos cpos : Pos}
theorem DVs.dropLast {K : Kw} {H : Hp} : ∀ {vs : List V} {ds : List PyData}, DVs K H vs ds → DVs K H vs.dropLast ds.dropLast
  | _, _, .nil => .nil
  | _, _, .cons _ .nil => .nil
  | _, _, .cons h1 (.cons h2 h3) => .cons h1 (DVs.dropLast (.cons h2 h3))
theorem x_pop {i : Nat} {o : Expr} (ho : PE X o (tVar i)) (hbase : attributeBase o "pop" X.env (eval o X.env) = eval o X.env := by rfl) (hline : (apos.endLine == cpos.line) = true := by rfl) :
    PE X (.Call (.Attribute o "pop" apos) [] [] cpos) (tD C (mOl i (mPop i))) := by
  refine (pe_bm0 PySem.F.plainAttrs_list PySem.F.slot_list_pop PySem.F.type_list_pop mt_pop ho hbase hline).imp fun σ H Q ⟨F, ρ, sr, p⟩ => ?_
  unfold mOl at p
  split at p
  · rename_i hi
    obtain ⟨xs, ex⟩ := isOl_at hi
    obtain ⟨v, hv, a, vs, rfl, h1, h2, h3⟩ := sr.sl i _ ex
    unfold mPop at p
    simp only [ex] at p
    cases ey : xs[xs.length - 1]? with
    | none => simp only [ey] at p; exact p.elim
    | some z =>
      simp only [ey] at p
      obtain ⟨w, ew, dw⟩ := h3.get ey
      have st := SR.write (i := i) (o' := .ol xs.dropLast) (u := .lst vs.dropLast) sr ex rfl hv rfl ⟨a, vs.dropLast, rfl, h1, upd_same, DVs.dropLast h3⟩
      exact ⟨_, hv, .inl ⟨rfl, vs, SqL.of h2⟩, a, vs, w, rfl, rfl, h2, by rw [h3.len]; exact ew, p F _ _ st.2 st.1 dw⟩
  · exact p.elim
def mKGetN (i : Nat) (mk : M PyData) : M PyData := fun ρ => match dctK ρ[i]? with
  | some _ => (mk.bind fun k => getOrK i k .none) ρ
  | none => .bad
theorem d_kgetN {i : Nat} {mk : M PyData} (hu : X.A.units + 9 < cLine) (ho : PE X o (tVar i)) (hi : PE X e (tD C mk)) (hK : X.KW = C.K := by rfl)
    (base : attributeBase o "get" X.env (eval o X.env) = eval o X.env := by rfl)
    (few : ((backTo pos (starEach [e] X.env)).all (fun x => !x.1) && (backToKw pos (keywordEach [] X.env)).all (fun x => x.1.isSome)
      && decide (([e] : List Expr).length + ([] : List Keyword).length + (if ([] : List Keyword).isEmpty then 0 else 1) < 30)) = true := by rfl)
    (line : (apos.endLine == pos.line) = true := by rfl) (trees : backTo pos (starEach [e] X.env) = [(false, eval e X.env)] := by rfl) :
    PE X (.Call (.Attribute o "get" apos) [e] [] pos) (tD C (mKGetN i mk)) := by
  refine ⟨fun pins s σ H Q I ⟨F, ρ, sr, p⟩ => ?_⟩
  unfold mKGetN at p
  cases es : dctK ρ[i]? with
  | none => simp only [es] at p; exact p.elim
  | some kvs0 =>
  simp only [es] at p
  obtain ⟨a, L, ha, hH, hn⟩ := dctK_at sr es
  refine wpAny_Call_method base few line PySem.F.plainAttrs_dict PySem.F.slot_dict_get PySem.F.type_dict_get (thn (ho.run pins s σ H (fun x H1 => x = .ref a ∧ H1 = H) I ⟨_, ha, rfl, rfl⟩) fun u s1 ⟨x, H1, I1, rx, e1, e2⟩ => ?_)
  subst e1 e2
  obtain rfl : u = Value.ref a := rx
  rw [← hK] at hH hn
  have srX : SR X.KW F H1 σ ρ := hK ▸ sr
  obtain ⟨_, _, xs, _, m⟩ := kd_at I1 hH srX.sub hn
  refine ⟨m.typeIs, fun b q => ?_, ?_⟩
  · cases q
    obtain ⟨ob, _, _, h1, h2, _⟩ := m
    exact ⟨ob, h1, h2.2.1⟩
  rw [trees]
  refine Calls.callWith_builtin rfl (Calls.evalArgs_plain (Calls.spliced_cons (thn (hi.run pins s1 σ H1 (fun y H2 => ∃ F2 ρ2 k b L kvs, SR C.K F2 H2 σ ρ2 ∧ Rd H2 a (KO C.K.w a L) ∧ KN C.K F2 L kvs ∧ y = .ref b ∧ DV C.K F2 (.ref b) k ∧ keyT k = true ∧ PostE C (rD C.K) σ ρ2 F2 H2 Q (.ok ((kAt kvs k).getD .none) ρ2)) I1 ⟨F, ρ, sr, p.part fun kd ρ1 F1 H2 y ee q1 g1 s1' r1 => ?_⟩) fun iv s2 ⟨y, H2, I2, ry, F2, ρ2, k, b, L2, kvs, s2', hH2, hn2, ey, hk, ht, q2⟩ => Calls.spliced_nil ?_)))
  · have q1 := q1.on stb_D g1
    unfold getOrK at q1
    cases es2 : dctK ρ1[i]? with
    | none => simp only [es2] at q1; exact q1.elim
    | some kvs =>
      simp only [es2] at q1
      split at q1
      · rename_i ht
        obtain ⟨a2, L2, ha2, hH2, hn2⟩ := dctK_at s1' es2
        obtain ⟨b, rfl⟩ := dv_tup r1 ht
        rw [ha] at ha2
        cases ha2
        exact ⟨F1, ρ1, kd, b, L2, kvs, s1', hH2, hn2, rfl, r1, ht, q1⟩
      · exact q1.elim
  subst ey
  obtain rfl : iv = .ref b := ry
  rw [← hK] at hH2 hn2 hk s2'
  exact kd_getN hu I2 hH2 s2'.sub hn2 hk ht fun w v s4 I4 rw' dv => ⟨w, H2, I4, rw', q2 F2 H2 w Grow.refl (hK ▸ s2') (hK ▸ dv)⟩
end
section
variable {ρ : Rho}
theorem v_kgetN {i : Nat} {mk : M PyData} {kvs : List (PyData × PyData)} (h : dctK ρ[i]? = some kvs) : mKGetN i mk ρ = (mk ρ).go fun k => getOrK i k .none := by
  unfold mKGetN
  rw [h]
  rfl
theorem v_getOrK {i : Nat} {k d : PyData} {kvs : List (PyData × PyData)} (h : dctK ρ[i]? = some kvs) (hk : keyT k = true) : getOrK i k d ρ = .ok ((kAt kvs k).getD d) ρ := by
  unfold getOrK
  simp only [h]
  rw [if_pos hk]
end
end Eg
namespace Eg
open PySem L2 PySem.W PySem.SeqAt
def mOlT (i : Nat) : M Bool := fun ρ => match ρ[i]? with
  | some (some (.ol xs)) => .ok (!xs.isEmpty) ρ
  | some (some (.sh d)) => truD d ρ
  | _ => .bad
section
variable [Tbs] {X : Cx} {C : Ct} {e : Expr}
theorem t_olT {i : Nat} (h : PE X e (tVar i)) (hK : X.KW = C.K := by rfl) (he : ∀ whole, isTrue e X.env whole = (do let v ← whole; standAt e.pos; holding [v] (truthy v)) := by intro _; rfl) : PT X e (tT C (mOlT i)) :=
  (pt_truth h he).imp fun σ H Q ⟨F, ρ, sr, p⟩ => by
    unfold mOlT at p
    rw [show X.K = C.K.fr from congrArg Kw.fr hK]
    cases q : ρ[i]? with
    | none => rw [q] at p; exact p.elim
    | some o =>
      cases o with
      | none => rw [q] at p; exact p.elim
      | some o =>
        obtain ⟨v, hv, r⟩ := sr.sl i o q
        cases o with
        | ol xs =>
          simp only [q] at p
          obtain ⟨a, vs, rfl, h1, h2, h3⟩ := r
          exact ⟨_, hv, !xs.isEmpty, .inl ⟨vs, SqL.of h2, by cases h3 <;> rfl⟩, p F H _ Grow.refl sr rfl⟩
        | sh d =>
          simp only [q] at p
          unfold truD at p
          cases ek : truOf d with
          | none => rw [ek] at p; exact p.elim
          | some k => rw [ek] at p; exact ⟨_, hv, k, DV.tru r sr.sub ek, p F H k Grow.refl sr rfl⟩
        | _ => simp only [q] at p; exact p.elim
theorem v_olT {i : Nat} {ρ : Rho} {xs : List PyData} (h : ρ[i]? = some (some (.ol xs))) : mOlT i ρ = .ok (!xs.isEmpty) ρ := by
  unfold mOlT
  simp only [h]
end
end Eg
namespace Lw
open PySem L2 PySem.W PySem.SeqAt Eg
end Lw
namespace Lw
open PySem L2 PySem.W PySem.SeqAt Eg
end Lw
namespace Lw
open PySem L2 PySem.W PySem.SeqAt Eg
end Lw
namespace Lw
open PySem L2 PySem.W PySem.SeqAt Eg
def m_source : M Out := sRet (mFix lstG (mCons (((mScr 0 (M.ret none) ((M.ret (.int 63)).bind fun d => (asInt d).bind fun i => M.ret (some i))).bind fz).bind fun d => M.ret (.dat d)) (mCons ((M.ret (.int 0)).bind fun d => M.ret (.dat d)) (mCons ((M.ret (.int 0)).bind fun d => M.ret (.dat d)) (mCons ((M.ret (.int 0)).bind fun d => M.ret (.dat d)) (mNil))))))
def fn_source : Fn := fnM 0 [false] m_source
def m_draw_2 : M Out := sSeq (sPutL 0 ((m2 aAdd ((m2 gIx (mSlot 0) ((M.ret (.int 3)).bind fun d => M.ret (.dat d))).bind fun d => M.ret (.dat d)) ((M.ret (.int 1)).bind fun d => M.ret (.dat d))).bind fz) (M.ret (.int 3))) (sSeq (sIf ((m2 gGt ((m2 gIx (mSlot 0) ((M.ret (.int 2)).bind fun d => M.ret (.dat d))).bind fun d => M.ret (.dat d)) ((M.ret (.int 0)).bind fun d => M.ret (.dat d))).bind asBool) (sSeq (sSet 2 ((m2 gMod ((m2 gIx (mSlot 0) ((M.ret (.int 2)).bind fun d => M.ret (.dat d))).bind fun d => M.ret (.dat d)) (mSlot 1)).bind fun d => M.ret (.sh d))) (sSeq (sPutL 0 (m2 gFloorW ((m2 gIx (mSlot 0) ((M.ret (.int 2)).bind fun d => M.ret (.dat d))).bind fun d => M.ret (.dat d)) (mSlot 1)) (M.ret (.int 2))) (sRet (mTake 2)))) (sNext)) (sSeq (sSet 3 (mIf ((m2 gNe ((m2 gIx (mSlot 0) ((M.ret (.int 0)).bind fun d => M.ret (.dat d))).bind fun d => M.ret (.dat d)) (((mFix lstG (mNil)).bind fz).bind fun d => M.ret (.dat d))).bind asBool) ((m2 gIx ((m2 gIx (mSlot 0) ((M.ret (.int 0)).bind fun d => M.ret (.dat d))).bind fun d => M.ret (.dat d)) ((m2 gMod ((m2 gIx (mSlot 0) ((M.ret (.int 1)).bind fun d => M.ret (.dat d))).bind fun d => M.ret (.dat d)) (((mL gLen (mCons ((m2 gIx (mSlot 0) ((M.ret (.int 0)).bind fun d => M.ret (.dat d))).bind fun d => M.ret (.dat d)) (mNil))).bind fz).bind fun d => M.ret (.dat d))).bind fun d => M.ret (.dat d))).bind fun d => M.ret (.sh d)) ((M.ret (.int 0)).bind fun d => M.ret (.sh d)))) (sSeq (sPutL 0 ((m2 aAdd ((m2 gIx (mSlot 0) ((M.ret (.int 1)).bind fun d => M.ret (.dat d))).bind fun d => M.ret (.dat d)) ((M.ret (.int 1)).bind fun d => M.ret (.dat d))).bind fz) (M.ret (.int 1))) (sSeq (sIf (mAnd ((m2 gGe (mSlot 3) ((m2 gPow ((M.ret (.int 10)).bind fun d => M.ret (.dat d)) ((M.ret (.int 18)).bind fun d => M.ret (.dat d))).bind fun d => M.ret (.dat d))).bind asBool) ((m2 gLe ((m2 gIx (mSlot 0) ((M.ret (.int 1)).bind fun d => M.ret (.dat d))).bind fun d => M.ret (.dat d)) (((mL gLen (mCons ((m2 gIx (mSlot 0) ((M.ret (.int 0)).bind fun d => M.ret (.dat d))).bind fun d => M.ret (.dat d)) (mNil))).bind fz).bind fun d => M.ret (.dat d))).bind asBool)) (sSeq (sPutL 0 (m2 gFloorW (mSlot 3) (mSlot 1)) (M.ret (.int 2))) (sRet ((m2 gMod (mSlot 3) (mSlot 1)).bind fun d => M.ret (.sh d)))) (sNext)) (sSeq (sSet 4 ((m2 gMod ((m2 gPow (((m2 aAdd (((m2 aAdd ((m2 gMod (mSlot 3) ((M.ret (.int 2147483549)).bind fun d => M.ret (.dat d))).bind fun d => M.ret (.dat d)) (((m2 aMulT ((M.ret (.int 7103)).bind fun d => M.ret (.dat d)) ((m2 gIx (mSlot 0) ((M.ret (.int 3)).bind fun d => M.ret (.dat d))).bind fun d => M.ret (.dat d))).bind fz).bind fun d => M.ret (.dat d))).bind fz).bind fun d => M.ret (.dat d)) ((M.ret (.int 41)).bind fun d => M.ret (.dat d))).bind fz).bind fun d => M.ret (.dat d)) ((M.ret (.int 5)).bind fun d => M.ret (.dat d))).bind fun d => M.ret (.dat d)) ((M.ret (.int 2147483629)).bind fun d => M.ret (.dat d))).bind fun d => M.ret (.sh d))) (sRet ((m2 gMod ((m2 gFloorW ((m2 gMod ((m2 gPow (((m2 aAdd (mSlot 4) (((m2 aMulT ((M.ret (.int 9199)).bind fun d => M.ret (.dat d)) ((m2 gIx (mSlot 0) ((M.ret (.int 3)).bind fun d => M.ret (.dat d))).bind fun d => M.ret (.dat d))).bind fz).bind fun d => M.ret (.dat d))).bind fz).bind fun d => M.ret (.dat d)) ((M.ret (.int 5)).bind fun d => M.ret (.dat d))).bind fun d => M.ret (.dat d)) ((M.ret (.int 2147483587)).bind fun d => M.ret (.dat d))).bind fun d => M.ret (.dat d)) ((M.ret (.int 16)).bind fun d => M.ret (.dat d))).bind fun d => M.ret (.dat d)) (mSlot 1)).bind fun d => M.ret (.sh d))))))))
def fn_draw_2 : Fn := fnM 3 [true, false] m_draw_2
def m_some_b1 : M Out := sExpr (mOl 4 (mAppend 4 (mOl 3 (mPopAt 3 ((mCallO fn_draw_2 (mCons (mSlot 0) (mCons (((mL gLen (mCons (mSlot 3) (mNil))).bind fz).bind fun d => M.ret (.dat d)) (mNil)))).bind fz)))))
def m_some : M Out := sSeq (sPar 3 4 (mL gList (mCons (mSlot 1) (mNil))) (mFix lstG (mNil))) (sSeq (sFor (mL rng1 (mCons (((mL gMin (mCons (mSlot 2) (mCons (((mL gLen (mCons (mSlot 3) (mNil))).bind fz).bind fun d => M.ret (.dat d)) (mNil)))).bind fz).bind fun d => M.ret (.dat d)) (mNil))) (tName 5) (m_some_b1)) (sRet (mL gTuple (mCons (((mL gSorted (mCons (mSlot 4) (mNil))).bind fz).bind fun d => M.ret (.dat d)) (mNil)))))
def fn_some : Fn := fnM 3 [true, false, false] m_some
def m_pact : M Out := sSeq (sSet 1 (m2 aAdd ((M.ret (.int 2)).bind fun d => M.ret (.dat d)) (((mCallO fn_draw_2 (mCons (mSlot 0) (mCons ((M.ret (.int 4)).bind fun d => M.ret (.dat d)) (mNil)))).bind fz).bind fun d => M.ret (.dat d)))) (sSeq (sSet 2 (m2 aAdd (((m2 aAdd ((m2 gFloorW (mSlot 1) ((M.ret (.int 2)).bind fun d => M.ret (.dat d))).bind fun d => M.ret (.dat d)) ((M.ret (.int 1)).bind fun d => M.ret (.dat d))).bind fz).bind fun d => M.ret (.dat d)) (((mCallO fn_draw_2 (mCons (mSlot 0) (mCons ((m2 gSub (mSlot 1) ((m2 gFloorW (mSlot 1) ((M.ret (.int 2)).bind fun d => M.ret (.dat d))).bind fun d => M.ret (.dat d))).bind fun d => M.ret (.dat d)) (mNil)))).bind fz).bind fun d => M.ret (.dat d)))) (sRet ((mFix tupG (mCons ((mFix tupG (mCons ((M.ret (.str "elm")).bind fun d => M.ret (.dat d)) (mCons ((M.ret (.str "oak")).bind fun d => M.ret (.dat d)) (mNil)))).bind fun d => M.ret (.dat d)) (mCons ((mName 1).bind fun d => M.ret (.dat d)) (mCons ((mName 2).bind fun d => M.ret (.dat d)) (mCons (((m2 aAdd ((M.ret (.int 1)).bind fun d => M.ret (.dat d)) (((mCallO fn_draw_2 (mCons (mSlot 0) (mCons ((M.ret (.int 9)).bind fun d => M.ret (.dat d)) (mNil)))).bind fz).bind fun d => M.ret (.dat d))).bind fz).bind fun d => M.ret (.dat d)) (mNil)))))).bind fun d => M.ret (.sh d))))
def fn_pact : Fn := fnM 2 [true] m_pact
end Lw
namespace Lw
open PySem L2 PySem.W PySem.SeqAt Eg
def m_all_standing_b1 : M Out := sSeq (sIf (mAnd (mKNot 1 (mName 2)) ((m2 gIn (mSlot 5) ((M.ret (.tuple [(.str "yes"), (.str "no")])).bind fun d => M.ret (.dat d))).bind asBool)) (sKPut 1 (mName 5) (mName 2)) (sNext)) (sIf (mAnd (mKIn 1 (mName 2)) (mAnd ((m1 gNotN (mSlot 3)).bind asBool) (mKNot 1 (mName 3)))) (sKPut 1 (mHas 1 (mKGet 1 (mName 2))) (mName 3)) (sNext))
def m_all_standing : M Out := sSeq (sSet 1 (M.ret (.kd []))) (sSeq (sFor ((mName 0).bind revItems) (tTup [tName 2, tName 3, tName 4, tName 4, tName 4, tName 4, tName 5]) (m_all_standing_b1)) (sRet (mTake 1)))
def fn_all_standing : Fn := fnM 5 [false] m_all_standing
def m_folk_2 : M Out := sRet (mFix lstG (mCons ((mFix tupG (mCons ((M.ret (.str "elm")).bind fun d => M.ret (.dat d)) (mCons ((M.ret (.str "a")).bind fun d => M.ret (.dat d)) (mNil)))).bind fun d => M.ret (.dat d)) (mCons ((mFix tupG (mCons ((M.ret (.str "elm")).bind fun d => M.ret (.dat d)) (mCons ((M.ret (.str "bo")).bind fun d => M.ret (.dat d)) (mNil)))).bind fun d => M.ret (.dat d)) (mCons ((mFix tupG (mCons ((M.ret (.str "elm")).bind fun d => M.ret (.dat d)) (mCons ((M.ret (.str "z")).bind fun d => M.ret (.dat d)) (mNil)))).bind fun d => M.ret (.dat d)) (mCons ((mFix tupG (mCons ((M.ret (.str "oak")).bind fun d => M.ret (.dat d)) (mCons ((M.ret (.str "a")).bind fun d => M.ret (.dat d)) (mNil)))).bind fun d => M.ret (.dat d)) (mCons ((mFix tupG (mCons ((M.ret (.str "oak")).bind fun d => M.ret (.dat d)) (mCons ((M.ret (.str "cy")).bind fun d => M.ret (.dat d)) (mNil)))).bind fun d => M.ret (.dat d)) (mCons ((mFix tupG (mCons ((M.ret (.str "oak")).bind fun d => M.ret (.dat d)) (mCons ((M.ret (.str "zz")).bind fun d => M.ret (.dat d)) (mNil)))).bind fun d => M.ret (.dat d)) (mNil))))))))
def fn_folk_2 : Fn := fnM 0 [] m_folk_2
def m_titles_2_b1 : M Out := sSeq (sIf ((m2 gEq (((mCallO fn_draw_2 (mCons (mSlot 0) (mCons ((M.ret (.int 4)).bind fun d => M.ret (.dat d)) (mNil)))).bind fz).bind fun d => M.ret (.dat d)) ((M.ret (.int 0)).bind fun d => M.ret (.dat d))).bind asBool) (sPar 3 4 (m2 aAdd (((m2 aAdd (mSlot 3) ((M.ret (.int 1)).bind fun d => M.ret (.dat d))).bind fz).bind fun d => M.ret (.dat d)) (((mCallO fn_draw_2 (mCons (mSlot 0) (mCons ((M.ret (.int 2)).bind fun d => M.ret (.dat d)) (mNil)))).bind fz).bind fun d => M.ret (.dat d))) ((M.ret (.int 0)).bind fun d => M.ret (.sh d))) (sNext)) (sSeq (sExpr (mOl 1 (mAppend 1 (mFix tupG (mCons ((mName 2).bind fun d => M.ret (.dat d)) (mCons ((mName 3).bind fun d => M.ret (.dat d)) (mCons ((mName 4).bind fun d => M.ret (.dat d)) (mNil)))))))) (sSet 4 (m2 aAdd (mSlot 4) ((M.ret (.int 1)).bind fun d => M.ret (.dat d)))))
def m_titles_2_b2 : M Out := sSeq (sUn (mFix tupG (mCons ((M.ret (.int 0)).bind fun d => M.ret (.dat d)) (mCons ((M.ret (.int 0)).bind fun d => M.ret (.dat d)) (mNil)))) (tTup [tName 3, tName 4])) (sFor (mL rng1 (mCons (((mCallO fn_draw_2 (mCons (mSlot 0) (mCons ((M.ret (.int 5)).bind fun d => M.ret (.dat d)) (mNil)))).bind fz).bind fun d => M.ret (.dat d)) (mNil))) (tName 5) (m_titles_2_b1))
def m_titles_2 : M Out := sSeq (sSet 1 (mFix lstG (mNil))) (sSeq (sFor ((mFix tupG (mCons ((M.ret (.str "elm")).bind fun d => M.ret (.dat d)) (mCons ((M.ret (.str "oak")).bind fun d => M.ret (.dat d)) (mNil)))).bind seqItems) (tName 2) (m_titles_2_b2)) (sRet (mTake 1)))
def fn_titles_2 : Fn := fnM 5 [true] m_titles_2
def m_slips_e1 : M PyData := mName 7
def m_slips_t2 : M Bool := (m2 gNotIn (mSlot 7) (mSlot 2)).bind asBool
def m_slips_b3 : M Out := sSeq (sSet 6 ((mOl 3 (mPopAt 3 ((mCallO fn_draw_2 (mCons (mSlot 0) (mCons (((mL gLen (mCons (mSlot 3) (mNil))).bind fz).bind fun d => M.ret (.dat d)) (mNil)))).bind fz))).bind fun d => M.ret (.sh d))) (sExpr (mOl 4 (mAppend 4 (mFix tupG (mCons ((mName 6).bind fun d => M.ret (.dat d)) (mCons (((mCallO fn_some (mCons (mSlot 0) (mCons (((mCall fn_folk_2 (mPick [] (mApp (mNil) (mNil)))).bind fz).bind fun d => M.ret (.dat d)) (mCons (((m2 aAdd ((M.ret (.int 1)).bind fun d => M.ret (.dat d)) (((mCallO fn_draw_2 (mCons (mSlot 0) (mCons ((M.ret (.int 3)).bind fun d => M.ret (.dat d)) (mNil)))).bind fz).bind fun d => M.ret (.dat d))).bind fz).bind fun d => M.ret (.dat d)) (mNil))))).bind fz).bind fun d => M.ret (.dat d)) (mCons ((m2 gIx (((mFix lstG (mCons ((M.ret (.str "yes")).bind fun d => M.ret (.dat d)) (mCons ((M.ret (.str "no")).bind fun d => M.ret (.dat d)) (mNil)))).bind fz).bind fun d => M.ret (.dat d)) (((mCallO fn_draw_2 (mCons (mSlot 0) (mCons ((M.ret (.int 2)).bind fun d => M.ret (.dat d)) (mNil)))).bind fz).bind fun d => M.ret (.dat d))).bind fun d => M.ret (.dat d)) (mNil))))))))
def m_slips : M Out := sSeq (sPar 3 4 (m2 aAdd (((mComp ((mName 1).bind seqItems) (tName 7) (m_slips_t2) (m_slips_e1) [7]).bind fz).bind fun d => M.ret (.dat d)) (((mFix lstG (mCons ((mFix tupG (mCons ((M.ret (.str "ash")).bind fun d => M.ret (.dat d)) (mCons ((M.ret (.int 0)).bind fun d => M.ret (.dat d)) (mCons ((M.ret (.int 0)).bind fun d => M.ret (.dat d)) (mNil))))).bind fun d => M.ret (.dat d)) (mCons ((mFix tupG (mCons ((M.ret (.str "oak")).bind fun d => M.ret (.dat d)) (mCons ((M.ret (.int 7)).bind fun d => M.ret (.dat d)) (mCons ((M.ret (.int 1)).bind fun d => M.ret (.dat d)) (mNil))))).bind fun d => M.ret (.dat d)) (mNil)))).bind fz).bind fun d => M.ret (.dat d))) (mFix lstG (mNil))) (sSeq (sFor (mL rng1 (mCons (((mCallO fn_draw_2 (mCons (mSlot 0) (mCons ((M.ret (.int 3)).bind fun d => M.ret (.dat d)) (mNil)))).bind fz).bind fun d => M.ret (.dat d)) (mNil))) (tName 5) (m_slips_b3)) (sRet (mL gTuple (mCons (((mL gSorted (mCons (mSlot 4) (mNil))).bind fz).bind fun d => M.ret (.dat d)) (mNil)))))
def fn_slips : Fn := fnM 5 [true, false, false] m_slips
def m_votes_b1 : M Out := sIf ((m2 gIn (mSlot 7) (mSlot 6)).bind asBool) (sExpr (mOl 3 (mAppend 3 (mFix tupG (mCons ((mName 7).bind fun d => M.ret (.dat d)) (mCons ((mName 5).bind fun d => M.ret (.dat d)) (mNil))))))) (sIf ((m2 gEq (((mCallO fn_draw_2 (mCons (mSlot 0) (mCons ((M.ret (.int 2)).bind fun d => M.ret (.dat d)) (mNil)))).bind fz).bind fun d => M.ret (.dat d)) ((M.ret (.int 0)).bind fun d => M.ret (.dat d))).bind asBool) (sExpr (mOl 3 (mAppend 3 (mFix tupG (mCons ((mName 7).bind fun d => M.ret (.dat d)) (mCons ((mIf ((m2 gEq (mSlot 5) ((M.ret (.str "yes")).bind fun d => M.ret (.dat d))).bind asBool) (M.ret (.str "no")) (M.ret (.str "yes"))).bind fun d => M.ret (.dat d)) (mNil))))))) (sNext))
def m_votes_b2 : M Out := sIf ((m2 gEq (((mCallO fn_draw_2 (mCons (mSlot 0) (mCons ((M.ret (.int 2)).bind fun d => M.ret (.dat d)) (mNil)))).bind fz).bind fun d => M.ret (.dat d)) ((M.ret (.int 0)).bind fun d => M.ret (.dat d))).bind asBool) (sExpr (mOl 3 (mAppend 3 (mFix tupG (mCons ((mName 7).bind fun d => M.ret (.dat d)) (mCons ((m2 gIx (((mFix lstG (mCons ((M.ret (.str "yes")).bind fun d => M.ret (.dat d)) (mCons ((M.ret (.str "no")).bind fun d => M.ret (.dat d)) (mNil)))).bind fz).bind fun d => M.ret (.dat d)) (((mCallO fn_draw_2 (mCons (mSlot 0) (mCons ((M.ret (.int 2)).bind fun d => M.ret (.dat d)) (mNil)))).bind fz).bind fun d => M.ret (.dat d))).bind fun d => M.ret (.dat d)) (mNil))))))) (sNext)
def m_votes : M Out := sSeq (sPar 3 4 (mFix lstG (mNil)) (mCallO fn_draw_2 (mCons (mSlot 0) (mCons ((M.ret (.int 4)).bind fun d => M.ret (.dat d)) (mNil))))) (sSeq (sIf (mAnd ((m2 gGt (mSlot 4) ((M.ret (.int 0)).bind fun d => M.ret (.dat d))).bind asBool) ((m2 gGe (((mL gLen (mCons (mSlot 2) (mNil))).bind fz).bind fun d => M.ret (.dat d)) ((m2 gIx (mSlot 1) ((M.ret (.int 2)).bind fun d => M.ret (.dat d))).bind fun d => M.ret (.dat d))).bind asBool)) (sSeq (sSet 5 ((m2 gIx (((mFix lstG (mCons ((M.ret (.str "yes")).bind fun d => M.ret (.dat d)) (mCons ((M.ret (.str "no")).bind fun d => M.ret (.dat d)) (mNil)))).bind fz).bind fun d => M.ret (.dat d)) (((mCallO fn_draw_2 (mCons (mSlot 0) (mCons ((M.ret (.int 2)).bind fun d => M.ret (.dat d)) (mNil)))).bind fz).bind fun d => M.ret (.dat d))).bind fun d => M.ret (.sh d))) (sSeq (sSet 6 (mCallO fn_some (mCons (mSlot 0) (mCons ((mName 2).bind fun d => M.ret (.dat d)) (mCons ((m2 gIx (mSlot 1) ((M.ret (.int 2)).bind fun d => M.ret (.dat d))).bind fun d => M.ret (.dat d)) (mNil)))))) (sSeq (sFor ((mName 2).bind seqItems) (tName 7) (m_votes_b1)) (sRet ((mFix tupG (mCons (((mL gTuple (mCons (mSlot 3) (mNil))).bind fz).bind fun d => M.ret (.dat d)) (mCons ((mName 5).bind fun d => M.ret (.dat d)) (mNil)))).bind fun d => M.ret (.sh d)))))) (sNext)) (sSeq (sFor (((mSl (mSlot 2) (M.ret none) ((m2 gSub ((m2 gIx (mSlot 1) ((M.ret (.int 2)).bind fun d => M.ret (.dat d))).bind fun d => M.ret (.dat d)) ((M.ret (.int 1)).bind fun d => M.ret (.dat d))).bind fun d => (asInt d).bind fun i => M.ret (some i))).bind fz).bind seqItems) (tName 7) (m_votes_b2)) (sRet ((mFix tupG (mCons (((mL gTuple (mCons (mSlot 3) (mNil))).bind fz).bind fun d => M.ret (.dat d)) (mCons ((m2 gIx (((mFix lstG (mCons ((M.ret .none).bind fun d => M.ret (.dat d)) (mCons ((M.ret .none).bind fun d => M.ret (.dat d)) (mCons ((M.ret (.str "laid")).bind fun d => M.ret (.dat d)) (mCons ((M.ret (.str "broken")).bind fun d => M.ret (.dat d)) (mNil)))))).bind fz).bind fun d => M.ret (.dat d)) (((mCallO fn_draw_2 (mCons (mSlot 0) (mCons ((M.ret (.int 4)).bind fun d => M.ret (.dat d)) (mNil)))).bind fz).bind fun d => M.ret (.dat d))).bind fun d => M.ret (.dat d)) (mNil)))).bind fun d => M.ret (.sh d)))))
def fn_votes : Fn := fnM 5 [true, false, false] m_votes
def m_case_e1 : M PyData := m2 gIx (mSlot 16) ((M.ret (.int 0)).bind fun d => M.ret (.dat d))
def m_case_t2 : M Bool := mAnd ((m2 gEq ((m2 gIx ((m2 gIx (mSlot 16) ((M.ret (.int 0)).bind fun d => M.ret (.dat d))).bind fun d => M.ret (.dat d)) ((M.ret (.int 0)).bind fun d => M.ret (.dat d))).bind fun d => M.ret (.dat d)) ((m2 gIx (mSlot 4) ((M.ret (.int 0)).bind fun d => M.ret (.dat d))).bind fun d => M.ret (.dat d))).bind asBool) ((m2 gIn ((m2 gIx (mSlot 16) ((M.ret (.int 6)).bind fun d => M.ret (.dat d))).bind fun d => M.ret (.dat d)) ((mFix tupG (mCons ((M.ret (.str "yes")).bind fun d => M.ret (.dat d)) (mCons ((M.ret (.str "no")).bind fun d => M.ret (.dat d)) (mNil)))).bind fun d => M.ret (.dat d))).bind asBool)
def m_case_e3 : M PyData := m2 gIx (mSlot 16) ((M.ret (.int 1)).bind fun d => M.ret (.dat d))
def m_case_t4 : M Bool := (m2 gEq ((m2 gIx (mSlot 16) ((M.ret (.int 0)).bind fun d => M.ret (.dat d))).bind fun d => M.ret (.dat d)) (mSlot 8)).bind asBool
def m_case_w5 : M Bool := (m1 gNotN (mSlot 8)).bind asBool
def m_case_b6 : M Out := sSeq (sExpr (mOl 7 (mAppend 7 (mName 8)))) (sSet 8 ((m2 gIx (((mCompO 3 (tName 16) (m_case_t4) (m_case_e3) [16]).bind fz).bind fun d => M.ret (.dat d)) ((M.ret (.int 0)).bind fun d => M.ret (.dat d))).bind fun d => M.ret (.sh d)))
def m_case_b7 : M Out := sExpr (mOl 12 (mExtend 12 ((mL gList (mCons ((m2 gIx (mSlot 13) ((M.ret (.int 1)).bind fun d => M.ret (.dat d))).bind fun d => M.ret (.dat d)) (mNil))).bind fz)))
def m_case : M Out := sSeq (sSet 5 (mCompO 3 (tName 16) (m_case_t2) (m_case_e1) [16])) (sSeq (sSet 6 (mIf (mAnd ((m2 gNe (mSlot 5) (((mFix lstG (mNil)).bind fz).bind fun d => M.ret (.dat d))).bind asBool) ((m2 gEq (((mCallO fn_draw_2 (mCons (mSlot 0) (mCons ((M.ret (.int 2)).bind fun d => M.ret (.dat d)) (mNil)))).bind fz).bind fun d => M.ret (.dat d)) ((M.ret (.int 0)).bind fun d => M.ret (.dat d))).bind asBool)) ((m2 gIx (mSlot 5) (((mCallO fn_draw_2 (mCons (mSlot 0) (mCons (((mL gLen (mCons (mSlot 5) (mNil))).bind fz).bind fun d => M.ret (.dat d)) (mNil)))).bind fz).bind fun d => M.ret (.dat d))).bind fun d => M.ret (.sh d)) ((M.ret .none).bind fun d => M.ret (.sh d)))) (sSeq (sPar 7 8 (mFix lstG (mCons ((mName 4).bind fun d => M.ret (.dat d)) (mNil))) ((mName 6).bind fun d => M.ret (.sh d))) (sSeq (sWhile (m_case_w5) (m_case_b6) 5000) (sSeq (sSet 9 (mCallO fn_some (mCons (mSlot 0) (mCons (((mCall fn_folk_2 (mPick [] (mApp (mNil) (mNil)))).bind fz).bind fun d => M.ret (.dat d)) (mCons (((mCallO fn_draw_2 (mCons (mSlot 0) (mCons (((m2 aAdd ((m2 gIx (mSlot 1) ((M.ret (.int 1)).bind fun d => M.ret (.dat d))).bind fun d => M.ret (.dat d)) ((M.ret (.int 1)).bind fun d => M.ret (.dat d))).bind fz).bind fun d => M.ret (.dat d)) (mNil)))).bind fz).bind fun d => M.ret (.dat d)) (mNil)))))) (sSeq (sSet 10 (mCallO fn_some (mCons (mSlot 0) (mCons (((mCall fn_folk_2 (mPick [] (mApp (mNil) (mNil)))).bind fz).bind fun d => M.ret (.dat d)) (mCons (((mCallO fn_draw_2 (mCons (mSlot 0) (mCons ((M.ret (.int 3)).bind fun d => M.ret (.dat d)) (mNil)))).bind fz).bind fun d => M.ret (.dat d)) (mNil)))))) (sSeq (sSet 11 (mCallO fn_slips (mCons (mSlot 0) (mCons ((mName 2).bind fun d => M.ret (.dat d)) (mCons ((mName 7).bind fun d => M.ret (.dat d)) (mNil)))))) (sSeq (sSet 12 (mL gList (mCons (((m2 aAdd (mSlot 9) (mSlot 10)).bind fz).bind fun d => M.ret (.dat d)) (mNil)))) (sSeq (sFor ((mName 11).bind seqItems) (tName 13) (m_case_b7)) (sSeq (sUn ((mCallO fn_votes (mCons (mSlot 0) (mCons ((mName 1).bind fun d => M.ret (.dat d)) (mCons ((mName 9).bind fun d => M.ret (.dat d)) (mNil))))).bind fz) (tTup [tName 14, tName 15])) (sRet ((mFix tupG (mCons ((mName 4).bind fun d => M.ret (.dat d)) (mCons ((mName 6).bind fun d => M.ret (.dat d)) (mCons ((mName 9).bind fun d => M.ret (.dat d)) (mCons (((mL gTuple (mCons (((mSSet (mCons (mSlot 12) (mNil))).bind fz).bind fun d => M.ret (.dat d)) (mNil))).bind fz).bind fun d => M.ret (.dat d)) (mCons ((mName 11).bind fun d => M.ret (.dat d)) (mCons ((mName 14).bind fun d => M.ret (.dat d)) (mCons ((mName 15).bind fun d => M.ret (.dat d)) (mNil))))))))).bind fun d => M.ret (.sh d))))))))))))
def fn_case : Fn := fnM 12 [true, false, false, true, false] m_case
def m_cases_b1 : M Out := sExpr (mOl 3 (mAppend 3 ((mCallL fn_case (mCons (mSlot 0) (mCons ((mName 1).bind fun d => M.ret (.dat d)) (mCons ((mName 2).bind fun d => M.ret (.dat d)) (mCons (mSlot 3) (mCons ((mName 4).bind fun d => M.ret (.dat d)) (mNil))))))).bind fz)))
def m_cases : M Out := sSeq (sPar 2 3 (mCallO fn_titles_2 (mCons (mSlot 0) (mNil))) (mFix lstG (mNil))) (sSeq (sFor ((mName 2).bind seqItems) (tName 4) (m_cases_b1)) (sRet (mL gTuple (mCons (mSlot 3) (mNil)))))
def fn_cases : Fn := fnM 3 [true, false] m_cases
def m_find_e1 : M PyData := mName 2
def m_find_t2 : M Bool := (m2 gEq ((m2 gIx (mSlot 2) ((M.ret (.int 0)).bind fun d => M.ret (.dat d))).bind fun d => M.ret (.dat d)) (mSlot 1)).bind asBool
def m_find : M Out := sRet ((m2 gIx (((mComp ((mName 0).bind seqItems) (tName 2) (m_find_t2) (m_find_e1) [2]).bind fz).bind fun d => M.ret (.dat d)) ((M.ret (.int 0)).bind fun d => M.ret (.dat d))).bind fun d => M.ret (.sh d))
def fn_find : Fn := fnM 1 [false, false] m_find
def m_stands_e1 (self : Fn) : M PyData := m2 gIx (mSlot 6) ((M.ret (.int 0)).bind fun d => M.ret (.dat d))
def m_stands_t2 (self : Fn) : M Bool := (m2 gEq ((m2 gIx (mSlot 6) ((M.ret (.int 1)).bind fun d => M.ret (.dat d))).bind fun d => M.ret (.dat d)) (mSlot 1)).bind asBool
def m_stands_b3 (self : Fn) : M Out := sSeq (sSet 5 (mCall self (mCons ((mName 0).bind fun d => M.ret (.dat d)) (mCons ((mName 4).bind fun d => M.ret (.dat d)) (mNil))))) (sSet 3 (mIf ((m1 gIsN (mSlot 5)).bind asBool) ((mName 3).bind fun d => M.ret (.sh d)) ((mName 5).bind fun d => M.ret (.sh d))))
def m_stands (self : Fn) : M Out := sSeq (sSet 2 ((m2 gIx (((mCall fn_find (mCons ((mName 0).bind fun d => M.ret (.dat d)) (mCons ((mName 1).bind fun d => M.ret (.dat d)) (mNil)))).bind fz).bind fun d => M.ret (.dat d)) ((M.ret (.int 6)).bind fun d => M.ret (.dat d))).bind fun d => M.ret (.sh d))) (sSeq (sSet 3 (mIf ((m2 gIn (mSlot 2) ((mFix tupG (mCons ((M.ret (.str "yes")).bind fun d => M.ret (.dat d)) (mCons ((M.ret (.str "no")).bind fun d => M.ret (.dat d)) (mNil)))).bind fun d => M.ret (.dat d))).bind asBool) ((mName 2).bind fun d => M.ret (.sh d)) ((M.ret .none).bind fun d => M.ret (.sh d)))) (sSeq (sFor (((mComp ((mName 0).bind seqItems) (tName 6) ((m_stands_t2 self)) ((m_stands_e1 self)) [6]).bind fz).bind seqItems) (tName 4) ((m_stands_b3 self))) (sRet (mTake 3))))
def fn_stands : Nat → Fn
  | 0 => fun _ => .bad
  | n + 1 => fnM 5 [false, false] (m_stands (fn_stands n))
def m_made_b1 : M Out := sExpr (mOl 5 (mExtend 5 ((mL gList (mCons ((m2 gIx (mSlot 6) ((M.ret (.int 1)).bind fun d => M.ret (.dat d))).bind fun d => M.ret (.dat d)) (mNil))).bind fz)))
def m_made_e2 : M PyData := mFix tupG (mCons ((mName 8).bind fun d => M.ret (.dat d)) (mCons ((mName 4).bind fun d => M.ret (.dat d)) (mNil)))
def m_made : M Out := sSeq (sSet 5 (mL gList (mCons (mSlot 2) (mNil)))) (sSeq (sFor ((mName 3).bind seqItems) (tName 6) (m_made_b1)) (sSeq (sSet 7 (mL gTuple (mCons (((mComp ((mName 2).bind seqItems) (tName 8) (M.ret true) (m_made_e2) [8]).bind fz).bind fun d => M.ret (.dat d)) (mNil)))) (sRet ((mFix tupG (mCons ((mName 0).bind fun d => M.ret (.dat d)) (mCons ((mName 1).bind fun d => M.ret (.dat d)) (mCons ((mName 2).bind fun d => M.ret (.dat d)) (mCons (((mL gTuple (mCons (((mSSet (mCons (mSlot 5) (mNil))).bind fz).bind fun d => M.ret (.dat d)) (mNil))).bind fz).bind fun d => M.ret (.dat d)) (mCons (((mL gTuple (mCons (((mL gSorted (mCons (mSlot 3) (mNil))).bind fz).bind fun d => M.ret (.dat d)) (mNil))).bind fz).bind fun d => M.ret (.dat d)) (mCons ((mName 7).bind fun d => M.ret (.dat d)) (mCons ((mName 4).bind fun d => M.ret (.dat d)) (mNil))))))))).bind fun d => M.ret (.sh d)))))
def fn_made : Fn := fnM 4 [false, false, false, false, false] m_made
end Lw
namespace Lw
open PySem L2 PySem.W PySem.SeqAt Eg
def m_readers_of_e1 : M PyData := m2 gIx (mSlot 3) ((M.ret (.int 0)).bind fun d => M.ret (.dat d))
def m_readers_of_e2 : M PyData := m2 gIx (mSlot 2) ((M.ret (.int 0)).bind fun d => M.ret (.dat d))
def m_readers_of_t3 : M Bool := (m2 gIn (mSlot 1) (((mComp ((m2 gIx (mSlot 2) ((M.ret (.int 4)).bind fun d => M.ret (.dat d))).bind seqItems) (tName 3) (M.ret true) (m_readers_of_e1) [3]).bind fz).bind fun d => M.ret (.dat d))).bind asBool
def m_readers_of : M Out := sRet (mComp ((mName 0).bind seqItems) (tName 2) (m_readers_of_t3) (m_readers_of_e2) [2])
def fn_readers_of : Fn := fnM 2 [false, false] m_readers_of
def m_all_resting_e1 : M PyData := mName 6
def m_all_resting_t2 : M Bool := (m2 gNotIn (mSlot 6) (mSlot 2)).bind asBool
def m_all_resting_w3 : M Bool := mOlT 3
def m_all_resting_b4 : M Out := sSeq (sSet 4 ((mOl 3 (mPop 3)).bind fun d => M.ret (.sh d))) (sSeq (sSet 5 (mComp (((mCall fn_readers_of (mCons ((mName 0).bind fun d => M.ret (.dat d)) (mCons ((mName 4).bind fun d => M.ret (.dat d)) (mNil)))).bind fz).bind seqItems) (tName 6) (m_all_resting_t2) (m_all_resting_e1) [6])) (sSeq (sExpr (mOl 2 (mExtend 2 (mName 5)))) (sExpr (mOl 3 (mExtend 3 (mName 5))))))
def m_all_resting : M Out := sSeq (sSet 2 (mFix lstG (mNil))) (sSeq (sSet 3 (mL gList (mCons (mSlot 1) (mNil)))) (sSeq (sWhile (m_all_resting_w3) (m_all_resting_b4) 5000) (sRet (mTake 2))))
def fn_all_resting : Fn := fnM 5 [false, false] m_all_resting
def m_rests_on : M Out := sRet (mL gTuple (mCons (((mL gSorted (mCons (((mCall fn_all_resting (mCons ((mName 0).bind fun d => M.ret (.dat d)) (mCons (((mFix lstG (mCons ((mName 1).bind fun d => M.ret (.dat d)) (mNil))).bind fz).bind fun d => M.ret (.dat d)) (mNil)))).bind fz).bind fun d => M.ret (.dat d)) (mNil))).bind fz).bind fun d => M.ret (.dat d)) (mNil)))
def fn_rests_on : Fn := fnM 0 [false, false] m_rests_on
def m_all_known_e1 : M PyData := mName 5
def m_all_known_e2 : M PyData := mName 7
def m_all_known_b3 : M Out := sKPut 2 (mKGetN 3 (m2 gIx (mSlot 4) ((M.ret (.int 0)).bind fun d => M.ret (.dat d)))) (m2 gIx (mSlot 4) ((M.ret (.int 0)).bind fun d => M.ret (.dat d)))
def m_all_known : M Out := sSeq (sSet 2 (mKComp ((mName 1).bind seqItems) (tTup [tName 5, tName 6, tName 7]) (M.ret true) (m_all_known_e1) (m_all_known_e2) [5, 6, 7])) (sSeq (sSet 3 (mCall fn_all_standing (mCons ((mName 0).bind fun d => M.ret (.dat d)) (mNil)))) (sSeq (sFor ((mName 0).bind seqItems) (tName 4) (m_all_known_b3)) (sRet (mTake 2))))
def fn_all_known : Fn := fnM 6 [false, false] m_all_known
def m_is_turned : M Out := sSeq (sUn (mName 0) (tTup [tName 2, tName 3, tName 4])) (sRet ((m2 gNotIn ((mKGetN 1 (mName 2)).bind fun d => M.ret (.dat d)) ((mFix tupG (mCons ((M.ret .none).bind fun d => M.ret (.dat d)) (mCons ((mName 4).bind fun d => M.ret (.dat d)) (mNil)))).bind fun d => M.ret (.dat d))).bind fun d => M.ret (.sh d)))
def fn_is_turned : Fn := fnM 3 [false, false] m_is_turned
def m_shaken_e1 : M PyData := (mCall fn_is_turned (mCons ((mName 5).bind fun d => M.ret (.dat d)) (mCons (mKFrz 2) (mNil)))).bind fz
def m_shaken_e2 : M PyData := m2 gIx (mSlot 4) ((M.ret (.int 0)).bind fun d => M.ret (.dat d))
def m_shaken_t3 : M Bool := ((mL gAny (mCons (((mComp ((m2 gIx (mSlot 4) ((M.ret (.int 4)).bind fun d => M.ret (.dat d))).bind seqItems) (tName 5) (M.ret true) (m_shaken_e1) [5]).bind fz).bind fun d => M.ret (.dat d)) (mNil))).bind fz).bind truD
def m_shaken : M Out := sSeq (sSet 2 (mCall fn_all_known (mCons ((mName 0).bind fun d => M.ret (.dat d)) (mCons ((mName 1).bind fun d => M.ret (.dat d)) (mNil))))) (sSeq (sSet 3 (mComp ((mName 0).bind seqItems) (tName 4) (m_shaken_t3) (m_shaken_e2) [4])) (sRet (mL gTuple (mCons (((mSSet (mCons (((m2 aAdd (mSlot 3) (((mCall fn_all_resting (mCons ((mName 0).bind fun d => M.ret (.dat d)) (mCons ((mName 3).bind fun d => M.ret (.dat d)) (mNil)))).bind fz).bind fun d => M.ret (.dat d))).bind fz).bind fun d => M.ret (.dat d)) (mNil))).bind fz).bind fun d => M.ret (.dat d)) (mNil)))))
def fn_shaken : Fn := fnM 4 [false, false] m_shaken
def m_own_is_turned_e1 : M PyData := m2 gIx (mSlot 5) ((M.ret (.int 2)).bind fun d => M.ret (.dat d))
def m_own_is_turned_t2 : M Bool := (m2 gEq ((m2 gIx (mSlot 5) ((M.ret (.int 0)).bind fun d => M.ret (.dat d))).bind fun d => M.ret (.dat d)) ((m2 gIx (mSlot 2) ((M.ret (.int 0)).bind fun d => M.ret (.dat d))).bind fun d => M.ret (.dat d))).bind asBool
def m_own_is_turned_e3 : M PyData := m2 gIx (mSlot 5) ((M.ret (.int 0)).bind fun d => M.ret (.dat d))
def m_own_is_turned : M Out := sSeq (sSet 3 (mComp ((mName 1).bind seqItems) (tName 5) (m_own_is_turned_t2) (m_own_is_turned_e1) [5])) (sSeq (sSet 4 (mIf ((m2 gNe (mSlot 3) (((mFix lstG (mNil)).bind fz).bind fun d => M.ret (.dat d))).bind asBool) ((m2 gIx (mSlot 3) (((M.ret (.int 1)).bind negD).bind fun d => M.ret (.dat d))).bind fun d => M.ret (.sh d)) ((M.ret .none).bind fun d => M.ret (.sh d)))) (sSeq (sIf ((m2 gIn ((m2 gIx (mSlot 2) ((M.ret (.int 0)).bind fun d => M.ret (.dat d))).bind fun d => M.ret (.dat d)) (((mComp ((mName 0).bind seqItems) (tName 5) (M.ret true) (m_own_is_turned_e3) [5]).bind fz).bind fun d => M.ret (.dat d))).bind asBool) (sSet 4 (mCall (fn_stands 15) (mCons ((mName 0).bind fun d => M.ret (.dat d)) (mCons ((m2 gIx (mSlot 2) ((M.ret (.int 0)).bind fun d => M.ret (.dat d))).bind fun d => M.ret (.dat d)) (mNil))))) (sNext)) (sRet ((mAndV (m1 gNotN (mSlot 4)) (m2 gNe (mSlot 4) ((m2 gIx (mSlot 2) ((M.ret (.int 2)).bind fun d => M.ret (.dat d))).bind fun d => M.ret (.dat d)))).bind fun d => M.ret (.sh d)))))
def fn_own_is_turned : Fn := fnM 3 [false, false, false] m_own_is_turned
def m_rests_e1 : M PyData := mName 6
def m_rests_t2 : M Bool := (m2 gIn ((m2 gIx (mSlot 6) ((M.ret (.int 0)).bind fun d => M.ret (.dat d))).bind fun d => M.ret (.dat d)) (((m2 aAdd (mSlot 1) (mSlot 2)).bind fz).bind fun d => M.ret (.dat d))).bind asBool
def m_rests_b3 : M Out := sSeq (sSet 5 (mComp ((m2 gIx (mSlot 4) ((M.ret (.int 4)).bind fun d => M.ret (.dat d))).bind seqItems) (tName 6) (m_rests_t2) (m_rests_e1) [6])) (sIf (mAnd ((m2 gNe (mSlot 5) (((mFix lstG (mNil)).bind fz).bind fun d => M.ret (.dat d))).bind asBool) ((m2 gNotIn ((m2 gIx (mSlot 4) ((M.ret (.int 0)).bind fun d => M.ret (.dat d))).bind fun d => M.ret (.dat d)) (mSlot 2)).bind asBool)) (sExpr (mOl 3 (mAppend 3 (m2 gIx (mSlot 4) ((M.ret (.int 0)).bind fun d => M.ret (.dat d)))))) (sNext))
def m_rests_w4 : M Bool := (m2 gNe (mSlot 3) (((mFix lstG (mNil)).bind fz).bind fun d => M.ret (.dat d))).bind asBool
def m_rests_b5 : M Out := sSeq (sSet 3 (mFix lstG (mNil))) (sSeq (sFor ((mName 0).bind seqItems) (tName 4) (m_rests_b3)) (sSet 2 (m2 aAdd (mSlot 2) (mSlot 3))))
def m_rests : M Out := sSeq (sPar 2 3 (mFix lstG (mNil)) (mFix lstG (mCons ((M.ret .none).bind fun d => M.ret (.dat d)) (mNil)))) (sSeq (sWhile (m_rests_w4) (m_rests_b5) 5000) (sRet (mL gTuple (mCons (((mL gSorted (mCons (mSlot 2) (mNil))).bind fz).bind fun d => M.ret (.dat d)) (mNil)))))
def fn_rests : Fn := fnM 5 [false, false] m_rests
def m_own_shaken_e1 : M PyData := mName 4
def m_own_shaken_t2 : M Bool := ((mCall fn_own_is_turned (mCons ((mName 0).bind fun d => M.ret (.dat d)) (mCons ((mName 1).bind fun d => M.ret (.dat d)) (mCons ((mName 4).bind fun d => M.ret (.dat d)) (mNil))))).bind fz).bind truD
def m_own_shaken_e3 : M PyData := m2 gIx (mSlot 3) ((M.ret (.int 0)).bind fun d => M.ret (.dat d))
def m_own_shaken_t4 : M Bool := (m2 gNe (((mComp ((m2 gIx (mSlot 3) ((M.ret (.int 4)).bind fun d => M.ret (.dat d))).bind seqItems) (tName 4) (m_own_shaken_t2) (m_own_shaken_e1) [4]).bind fz).bind fun d => M.ret (.dat d)) (((mFix lstG (mNil)).bind fz).bind fun d => M.ret (.dat d))).bind asBool
def m_own_shaken : M Out := sSeq (sSet 2 (mComp ((mName 0).bind seqItems) (tName 3) (m_own_shaken_t4) (m_own_shaken_e3) [3])) (sRet (mL gTuple (mCons (((mSSet (mCons (((m2 aAdd (mSlot 2) (((mL gList (mCons (((mCall fn_rests (mCons ((mName 0).bind fun d => M.ret (.dat d)) (mCons ((mName 2).bind fun d => M.ret (.dat d)) (mNil)))).bind fz).bind fun d => M.ret (.dat d)) (mNil))).bind fz).bind fun d => M.ret (.dat d))).bind fz).bind fun d => M.ret (.dat d)) (mNil))).bind fz).bind fun d => M.ret (.dat d)) (mNil))))
def fn_own_shaken : Fn := fnM 3 [false, false] m_own_shaken
def m_rumour_b1 : M Out := sSeq (sSet 5 ((m2 gIx (mSlot 3) (((mCallO fn_draw_2 (mCons (mSlot 0) (mCons (((mL gLen (mCons (mSlot 3) (mNil))).bind fz).bind fun d => M.ret (.dat d)) (mNil)))).bind fz).bind fun d => M.ret (.dat d))).bind fun d => M.ret (.sh d))) (sExpr (mOl 2 (mAppend 2 (mFix tupG (mCons ((mName 5).bind fun d => M.ret (.dat d)) (mCons (((mCallO fn_some (mCons (mSlot 0) (mCons (((mCall fn_folk_2 (mPick [] (mApp (mNil) (mNil)))).bind fz).bind fun d => M.ret (.dat d)) (mCons (((m2 aAdd ((M.ret (.int 1)).bind fun d => M.ret (.dat d)) (((mCallO fn_draw_2 (mCons (mSlot 0) (mCons ((M.ret (.int 2)).bind fun d => M.ret (.dat d)) (mNil)))).bind fz).bind fun d => M.ret (.dat d))).bind fz).bind fun d => M.ret (.dat d)) (mNil))))).bind fz).bind fun d => M.ret (.dat d)) (mCons ((m2 gIx (((mFix lstG (mCons ((M.ret (.str "yes")).bind fun d => M.ret (.dat d)) (mCons ((M.ret (.str "no")).bind fun d => M.ret (.dat d)) (mNil)))).bind fz).bind fun d => M.ret (.dat d)) (((mCallO fn_draw_2 (mCons (mSlot 0) (mCons ((M.ret (.int 2)).bind fun d => M.ret (.dat d)) (mNil)))).bind fz).bind fun d => M.ret (.dat d))).bind fun d => M.ret (.dat d)) (mNil))))))))
def m_rumour : M Out := sSeq (sPar 2 3 (mFix lstG (mNil)) (m2 aAdd (mSlot 1) (((mFix lstG (mCons ((mFix tupG (mCons ((M.ret (.str "ash")).bind fun d => M.ret (.dat d)) (mCons ((M.ret (.int 0)).bind fun d => M.ret (.dat d)) (mCons ((M.ret (.int 0)).bind fun d => M.ret (.dat d)) (mNil))))).bind fun d => M.ret (.dat d)) (mCons ((mFix tupG (mCons ((M.ret (.str "oak")).bind fun d => M.ret (.dat d)) (mCons ((M.ret (.int 7)).bind fun d => M.ret (.dat d)) (mCons ((M.ret (.int 1)).bind fun d => M.ret (.dat d)) (mNil))))).bind fun d => M.ret (.dat d)) (mCons ((mFix tupG (mCons ((M.ret (.str "elm")).bind fun d => M.ret (.dat d)) (mCons ((M.ret (.int 9)).bind fun d => M.ret (.dat d)) (mCons ((M.ret (.int 0)).bind fun d => M.ret (.dat d)) (mNil))))).bind fun d => M.ret (.dat d)) (mNil))))).bind fz).bind fun d => M.ret (.dat d)))) (sSeq (sFor (mL rng1 (mCons (((mCallO fn_draw_2 (mCons (mSlot 0) (mCons ((M.ret (.int 5)).bind fun d => M.ret (.dat d)) (mNil)))).bind fz).bind fun d => M.ret (.dat d)) (mNil))) (tName 4) (m_rumour_b1)) (sRet (mL gTuple (mCons (mSlot 2) (mNil)))))
def fn_rumour : Fn := fnM 4 [true, false] m_rumour
def m_long_e1 : M PyData := mFix tupG (mCons ((mFix tupG (mCons ((M.ret (.str "elm")).bind fun d => M.ret (.dat d)) (mCons ((M.ret (.int 0)).bind fun d => M.ret (.dat d)) (mCons ((mName 6).bind fun d => M.ret (.dat d)) (mNil))))).bind fun d => M.ret (.dat d)) (mCons ((mFix tupG (mCons ((mFix tupG (mCons ((M.ret (.str "elm")).bind fun d => M.ret (.dat d)) (mCons ((M.ret (.str "a")).bind fun d => M.ret (.dat d)) (mNil)))).bind fun d => M.ret (.dat d)) (mNil))).bind fun d => M.ret (.dat d)) (mCons ((mIf ((m2 gEq (mSlot 3) ((M.ret (.int 1)).bind fun d => M.ret (.dat d))).bind asBool) (mName 1) (M.ret (.str "yes"))).bind fun d => M.ret (.dat d)) (mNil))))
def m_long_b2 : M Out := sSeq (sSet 4 (m2 aAdd (((mFix lstG (mCons ((m2 gSub (mSlot 3) ((M.ret (.int 1)).bind fun d => M.ret (.dat d))).bind fun d => M.ret (.dat d)) (mNil))).bind fz).bind fun d => M.ret (.dat d)) (((m2 aMulT (mSlot 0) (((mL gInt (mCons ((m2 gEq (mSlot 3) ((M.ret (.int 11)).bind fun d => M.ret (.dat d))).bind fun d => M.ret (.dat d)) (mNil))).bind fz).bind fun d => M.ret (.dat d))).bind fz).bind fun d => M.ret (.dat d)))) (sSeq (sSet 5 (mComp ((mName 4).bind seqItems) (tName 6) (M.ret true) (m_long_e1) [6])) (sExpr (mOl 2 (mAppend 2 ((mCall fn_made (mCons ((mFix tupG (mCons ((M.ret (.str "elm")).bind fun d => M.ret (.dat d)) (mCons ((M.ret (.int 0)).bind fun d => M.ret (.dat d)) (mCons ((mName 3).bind fun d => M.ret (.dat d)) (mNil))))).bind fun d => M.ret (.dat d)) (mCons ((M.ret .none).bind fun d => M.ret (.dat d)) (mCons ((mFix tupG (mCons ((mFix tupG (mCons ((M.ret (.str "elm")).bind fun d => M.ret (.dat d)) (mCons ((M.ret (.str "bo")).bind fun d => M.ret (.dat d)) (mNil)))).bind fun d => M.ret (.dat d)) (mCons ((mFix tupG (mCons ((M.ret (.str "elm")).bind fun d => M.ret (.dat d)) (mCons ((M.ret (.str "z")).bind fun d => M.ret (.dat d)) (mNil)))).bind fun d => M.ret (.dat d)) (mNil)))).bind fun d => M.ret (.dat d)) (mCons ((mName 5).bind fun d => M.ret (.dat d)) (mCons ((M.ret (.str "yes")).bind fun d => M.ret (.dat d)) (mNil))))))).bind fz)))))
def m_long : M Out := sSeq (sSet 2 (mFix lstG (mCons (((mCall fn_made (mCons ((mFix tupG (mCons ((M.ret (.str "elm")).bind fun d => M.ret (.dat d)) (mCons ((M.ret (.int 0)).bind fun d => M.ret (.dat d)) (mCons ((M.ret (.int 0)).bind fun d => M.ret (.dat d)) (mNil))))).bind fun d => M.ret (.dat d)) (mCons ((M.ret .none).bind fun d => M.ret (.dat d)) (mCons ((mFix tupG (mCons ((mFix tupG (mCons ((M.ret (.str "elm")).bind fun d => M.ret (.dat d)) (mCons ((M.ret (.str "a")).bind fun d => M.ret (.dat d)) (mNil)))).bind fun d => M.ret (.dat d)) (mCons ((mFix tupG (mCons ((M.ret (.str "elm")).bind fun d => M.ret (.dat d)) (mCons ((M.ret (.str "bo")).bind fun d => M.ret (.dat d)) (mNil)))).bind fun d => M.ret (.dat d)) (mNil)))).bind fun d => M.ret (.dat d)) (mCons ((mFix tupG (mNil)).bind fun d => M.ret (.dat d)) (mCons ((M.ret (.str "yes")).bind fun d => M.ret (.dat d)) (mNil))))))).bind fz).bind fun d => M.ret (.dat d)) (mNil)))) (sSeq (sFor (mL rng2 (mCons ((M.ret (.int 1)).bind fun d => M.ret (.dat d)) (mCons ((M.ret (.int 12)).bind fun d => M.ret (.dat d)) (mNil)))) (tName 3) (m_long_b2)) (sRet (mL gTuple (mCons (mSlot 2) (mNil)))))
def fn_long : Fn := fnM 5 [false, false] m_long
def m_law_k41_e1 : M PyData := m2 gIx (mSlot 11) ((M.ret (.int 0)).bind fun d => M.ret (.dat d))
def m_law_k41_b2 : M Out := sSeq (sSet 8 (mCall fn_rests (mCons ((mName 3).bind fun d => M.ret (.dat d)) (mCons (((mFix lstG (mCons ((mName 7).bind fun d => M.ret (.dat d)) (mNil))).bind fz).bind fun d => M.ret (.dat d)) (mNil))))) (sIf ((m2 gNe (((mL gRepr (mCons (((mFix lstG (mCons (((mCall fn_rests_on (mCons ((mName 3).bind fun d => M.ret (.dat d)) (mCons ((mName 7).bind fun d => M.ret (.dat d)) (mNil)))).bind fz).bind fun d => M.ret (.dat d)) (mCons (((mCall fn_rests_on (mPick [.inl 1, .inl 0] (mApp (mNil) (mCons ((mName 7).bind fun d => M.ret (.dat d)) (mCons ((mName 3).bind fun d => M.ret (.dat d)) (mNil)))))).bind fz).bind fun d => M.ret (.dat d)) (mNil)))).bind fz).bind fun d => M.ret (.dat d)) (mNil))).bind fz).bind fun d => M.ret (.dat d)) (((mL gRepr (mCons (((mFix lstG (mCons ((mName 8).bind fun d => M.ret (.dat d)) (mCons ((mName 8).bind fun d => M.ret (.dat d)) (mNil)))).bind fz).bind fun d => M.ret (.dat d)) (mNil))).bind fz).bind fun d => M.ret (.dat d))).bind asBool) (sRet ((M.ret (.bool false)).bind fun d => M.ret (.sh d))) (sNext))
def m_law_k41_b3 : M Out := sSeq (sSet 3 (mIf ((m2 gGt (mSlot 2) ((M.ret (.int 0)).bind fun d => M.ret (.dat d))).bind asBool) (mCallO fn_cases (mCons (mSlot 1) (mCons (((mCallO fn_pact (mCons (mSlot 1) (mNil))).bind fz).bind fun d => M.ret (.dat d)) (mNil)))) (mCall fn_long (mCons (((mFix lstG (mCons ((M.ret (.int 0)).bind fun d => M.ret (.dat d)) (mCons ((M.ret (.int 1)).bind fun d => M.ret (.dat d)) (mCons ((M.ret (.int 2)).bind fun d => M.ret (.dat d)) (mCons ((M.ret (.int 3)).bind fun d => M.ret (.dat d)) (mNil)))))).bind fz).bind fun d => M.ret (.dat d)) (mCons ((M.ret (.str "no")).bind fun d => M.ret (.dat d)) (mNil)))))) (sSeq (sSet 4 (mComp ((mName 3).bind seqItems) (tName 11) (M.ret true) (m_law_k41_e1) [11])) (sSeq (sSet 5 (mCallO fn_rumour (mCons (mSlot 1) (mCons ((mName 4).bind fun d => M.ret (.dat d)) (mNil))))) (sSeq (sSet 6 (mL gRepr (mCons ((mFix tupG (mCons ((mName 3).bind fun d => M.ret (.dat d)) (mCons ((mName 5).bind fun d => M.ret (.dat d)) (mNil)))).bind fun d => M.ret (.dat d)) (mNil)))) (sSeq (sFor (((m2 aAdd (mSlot 4) (((mFix lstG (mCons ((mFix tupG (mCons ((M.ret (.str "ash")).bind fun d => M.ret (.dat d)) (mCons ((M.ret (.int 0)).bind fun d => M.ret (.dat d)) (mCons ((M.ret (.int 0)).bind fun d => M.ret (.dat d)) (mNil))))).bind fun d => M.ret (.dat d)) (mCons ((mFix tupG (mCons ((M.ret (.str "oak")).bind fun d => M.ret (.dat d)) (mCons ((M.ret (.int 7)).bind fun d => M.ret (.dat d)) (mCons ((M.ret (.int 1)).bind fun d => M.ret (.dat d)) (mNil))))).bind fun d => M.ret (.dat d)) (mCons ((mFix tupG (mCons ((M.ret (.str "elm")).bind fun d => M.ret (.dat d)) (mCons ((M.ret (.int 9)).bind fun d => M.ret (.dat d)) (mCons ((M.ret (.int 9)).bind fun d => M.ret (.dat d)) (mNil))))).bind fun d => M.ret (.dat d)) (mNil))))).bind fz).bind fun d => M.ret (.dat d))).bind fz).bind seqItems) (tName 7) (m_law_k41_b2)) (sSeq (sPar 8 9 (mCall fn_own_shaken (mCons ((mName 3).bind fun d => M.ret (.dat d)) (mCons ((mName 5).bind fun d => M.ret (.dat d)) (mNil)))) (mCall fn_own_shaken (mCons ((mName 3).bind fun d => M.ret (.dat d)) (mCons ((mFix tupG (mNil)).bind fun d => M.ret (.dat d)) (mNil))))) (sSeq (sSet 10 (mFix lstG (mCons (((mCall fn_shaken (mApp (mCons ((mName 3).bind fun d => M.ret (.dat d)) (mNil)) (mCons ((mName 5).bind fun d => M.ret (.dat d)) (mNil)))).bind fz).bind fun d => M.ret (.dat d)) (mCons (((mCall fn_shaken (mPick [.inl 1, .inl 0] (mApp (mNil) (mCons ((mName 5).bind fun d => M.ret (.dat d)) (mCons ((mName 3).bind fun d => M.ret (.dat d)) (mNil)))))).bind fz).bind fun d => M.ret (.dat d)) (mCons (((mCall fn_shaken (mPick [.inl 0, .inr (.tuple [])] (mApp (mCons ((mName 3).bind fun d => M.ret (.dat d)) (mNil)) (mNil)))).bind fz).bind fun d => M.ret (.dat d)) (mCons (((mCall fn_shaken (mApp (mCons ((mName 3).bind fun d => M.ret (.dat d)) (mNil)) (mCons ((mFix tupG (mNil)).bind fun d => M.ret (.dat d)) (mNil)))).bind fz).bind fun d => M.ret (.dat d)) (mNil))))))) (sIf (mOr ((m2 gNe (((mL gRepr (mCons (mSlot 10) (mNil))).bind fz).bind fun d => M.ret (.dat d)) (((mL gRepr (mCons (((mFix lstG (mCons ((mName 8).bind fun d => M.ret (.dat d)) (mCons ((mName 8).bind fun d => M.ret (.dat d)) (mCons ((mName 9).bind fun d => M.ret (.dat d)) (mCons ((mName 9).bind fun d => M.ret (.dat d)) (mNil)))))).bind fz).bind fun d => M.ret (.dat d)) (mNil))).bind fz).bind fun d => M.ret (.dat d))).bind asBool) ((m2 gNe (((mL gRepr (mCons ((mFix tupG (mCons ((mName 3).bind fun d => M.ret (.dat d)) (mCons ((mName 5).bind fun d => M.ret (.dat d)) (mNil)))).bind fun d => M.ret (.dat d)) (mNil))).bind fz).bind fun d => M.ret (.dat d)) (mSlot 6)).bind asBool)) (sRet ((M.ret (.bool false)).bind fun d => M.ret (.sh d))) (sNext))))))))
def m_law_k41 : M Out := sSeq (sSet 1 (mCall fn_source (mCons (mSlot 0) (mNil)))) (sSeq (sFor (mL rng1 (mCons ((M.ret (.int 5)).bind fun d => M.ret (.dat d)) (mNil))) (tName 2) (m_law_k41_b3)) (sRet ((M.ret (.bool true)).bind fun d => M.ret (.sh d))))
def fn_law_k41 : Fn := fnM 11 [false] m_law_k41
end Lw
namespace Dv
open PySem L2 PySem.W PySem.SeqAt Eg
variable [Tbs]
def top (i : Nat) : Stmt := PySem.Challenge.pw_strangerbench_k41_rests_and_shaken_told.main.body.getD i (.Pass ⟨0, 0, 0, 0⟩)
abbrev st_all_standing : Stmt := top 2
abbrev st_readers_of : Stmt := top 7
abbrev st_all_resting : Stmt := top 6
abbrev st_rests_on : Stmt := top 4
abbrev st_all_known : Stmt := top 8
abbrev st_is_turned : Stmt := top 9
abbrev st_shaken : Stmt := top 5
abbrev st_source : Stmt := top 11
abbrev st_draw : Stmt := top 12
abbrev st_some : Stmt := top 13
abbrev st_pact : Stmt := top 14
abbrev st_folk : Stmt := top 15
abbrev st_titles : Stmt := top 16
abbrev st_slips : Stmt := top 17
abbrev st_votes : Stmt := top 18
abbrev st_case : Stmt := top 19
abbrev st_cases : Stmt := top 20
abbrev st_find : Stmt := top 21
abbrev st_stands : Stmt := top 22
abbrev st_own_is_turned : Stmt := top 23
abbrev st_rests : Stmt := top 24
abbrev st_own_shaken : Stmt := top 25
abbrev st_rumour : Stmt := top 26
abbrev st_made : Stmt := top 27
abbrev st_long : Stmt := top 28
abbrev st_law : Stmt := top 29
theorem sc_all_standing : FnScope ["matters", "stands", "name", "lower", "_", "end"] ["matters"] (defScope st_all_standing) := ⟨rfl, rfl, rfl, by decide +kernel, rfl, by decide +kernel, by decide +kernel⟩
theorem s_all_standing_stands : (defScope st_all_standing).names.lookup ("stands" : Str) = some NameKind.local := by decide +kernel
theorem s_all_standing_matters : (defScope st_all_standing).names.lookup ("matters" : Str) = some NameKind.local := by decide +kernel
theorem s_all_standing_reversed : (defScope st_all_standing).names.lookup ("reversed" : Str) = some NameKind.globalImplicit := by decide +kernel
theorem s_all_standing_name : (defScope st_all_standing).names.lookup ("name" : Str) = some NameKind.local := by decide +kernel
theorem s_all_standing_lower : (defScope st_all_standing).names.lookup ("lower" : Str) = some NameKind.local := by decide +kernel
theorem s_all_standing__ : (defScope st_all_standing).names.lookup ("_" : Str) = some NameKind.local := by decide +kernel
theorem s_all_standing_end : (defScope st_all_standing).names.lookup ("end" : Str) = some NameKind.local := by decide +kernel
theorem s_all_standing_VERDICTS : (defScope st_all_standing).names.lookup ("VERDICTS" : Str) = some NameKind.globalImplicit := by decide +kernel
theorem sc_readers_of : FnScope ["matters", "name", "matter", "note"] ["matters", "name"] (defScope st_readers_of) := ⟨rfl, rfl, rfl, by decide +kernel, rfl, by decide +kernel, by decide +kernel⟩
theorem s_readers_of_matters : (defScope st_readers_of).names.lookup ("matters" : Str) = some NameKind.local := by decide +kernel
theorem sc_all_resting : FnScope ["matters", "names", "resting", "asked", "name", "more", "one"] ["matters", "names"] (defScope st_all_resting) := ⟨rfl, rfl, rfl, by decide +kernel, rfl, by decide +kernel, by decide +kernel⟩
theorem s_all_resting_resting : (defScope st_all_resting).names.lookup ("resting" : Str) = some NameKind.cell := by decide +kernel
theorem s_all_resting_names : (defScope st_all_resting).names.lookup ("names" : Str) = some NameKind.local := by decide +kernel
theorem s_all_resting_list : (defScope st_all_resting).names.lookup ("list" : Str) = some NameKind.globalImplicit := by decide +kernel
theorem s_all_resting_asked : (defScope st_all_resting).names.lookup ("asked" : Str) = some NameKind.local := by decide +kernel
theorem s_all_resting_name : (defScope st_all_resting).names.lookup ("name" : Str) = some NameKind.local := by decide +kernel
theorem s_all_resting_more : (defScope st_all_resting).names.lookup ("more" : Str) = some NameKind.local := by decide +kernel
theorem s_all_resting_matters : (defScope st_all_resting).names.lookup ("matters" : Str) = some NameKind.local := by decide +kernel
theorem s_all_resting_readers_of : (defScope st_all_resting).names.lookup ("readers_of" : Str) = some NameKind.globalImplicit := by decide +kernel
theorem sc_rests_on : FnScope ["matters", "name"] ["matters", "name"] (defScope st_rests_on) := ⟨rfl, rfl, rfl, by decide +kernel, rfl, by decide +kernel, by decide +kernel⟩
theorem s_rests_on_name : (defScope st_rests_on).names.lookup ("name" : Str) = some NameKind.local := by decide +kernel
theorem s_rests_on_matters : (defScope st_rests_on).names.lookup ("matters" : Str) = some NameKind.local := by decide +kernel
theorem s_rests_on_all_resting : (defScope st_rests_on).names.lookup ("all_resting" : Str) = some NameKind.globalImplicit := by decide +kernel
theorem s_rests_on_sorted : (defScope st_rests_on).names.lookup ("sorted" : Str) = some NameKind.globalImplicit := by decide +kernel
theorem s_rests_on_tuple : (defScope st_rests_on).names.lookup ("tuple" : Str) = some NameKind.globalImplicit := by decide +kernel
theorem sc_all_known : FnScope ["matters", "news", "known", "stands", "matter", "name", "_", "verdict"] ["matters", "news"] (defScope st_all_known) := ⟨rfl, rfl, rfl, by decide +kernel, rfl, by decide +kernel, by decide +kernel⟩
theorem s_all_known_known : (defScope st_all_known).names.lookup ("known" : Str) = some NameKind.local := by decide +kernel
theorem s_all_known_news : (defScope st_all_known).names.lookup ("news" : Str) = some NameKind.local := by decide +kernel
theorem s_all_known_matters : (defScope st_all_known).names.lookup ("matters" : Str) = some NameKind.local := by decide +kernel
theorem s_all_known_all_standing : (defScope st_all_known).names.lookup ("all_standing" : Str) = some NameKind.globalImplicit := by decide +kernel
theorem s_all_known_stands : (defScope st_all_known).names.lookup ("stands" : Str) = some NameKind.local := by decide +kernel
theorem s_all_known_matter : (defScope st_all_known).names.lookup ("matter" : Str) = some NameKind.local := by decide +kernel
theorem sc_is_turned : FnScope ["note", "known", "name", "_", "verdict"] ["note", "known"] (defScope st_is_turned) := ⟨rfl, rfl, rfl, by decide +kernel, rfl, by decide +kernel, by decide +kernel⟩
theorem s_is_turned_note : (defScope st_is_turned).names.lookup ("note" : Str) = some NameKind.local := by decide +kernel
theorem s_is_turned_name : (defScope st_is_turned).names.lookup ("name" : Str) = some NameKind.local := by decide +kernel
theorem s_is_turned__ : (defScope st_is_turned).names.lookup ("_" : Str) = some NameKind.local := by decide +kernel
theorem s_is_turned_verdict : (defScope st_is_turned).names.lookup ("verdict" : Str) = some NameKind.local := by decide +kernel
theorem s_is_turned_known : (defScope st_is_turned).names.lookup ("known" : Str) = some NameKind.local := by decide +kernel
theorem sc_shaken : FnScope ["matters", "news", "known", "turned", "matter", "note"] ["matters", "news"] (defScope st_shaken) := ⟨rfl, rfl, rfl, by decide +kernel, rfl, by decide +kernel, by decide +kernel⟩
theorem s_shaken_news : (defScope st_shaken).names.lookup ("news" : Str) = some NameKind.local := by decide +kernel
theorem s_shaken_matters : (defScope st_shaken).names.lookup ("matters" : Str) = some NameKind.local := by decide +kernel
theorem s_shaken_all_known : (defScope st_shaken).names.lookup ("all_known" : Str) = some NameKind.globalImplicit := by decide +kernel
theorem s_shaken_known : (defScope st_shaken).names.lookup ("known" : Str) = some NameKind.cell := by decide +kernel
theorem s_shaken_turned : (defScope st_shaken).names.lookup ("turned" : Str) = some NameKind.local := by decide +kernel
theorem s_shaken_all_resting : (defScope st_shaken).names.lookup ("all_resting" : Str) = some NameKind.globalImplicit := by decide +kernel
theorem s_shaken_sorted : (defScope st_shaken).names.lookup ("sorted" : Str) = some NameKind.globalImplicit := by decide +kernel
theorem s_shaken_set : (defScope st_shaken).names.lookup ("set" : Str) = some NameKind.globalImplicit := by decide +kernel
theorem s_shaken_tuple : (defScope st_shaken).names.lookup ("tuple" : Str) = some NameKind.globalImplicit := by decide +kernel
theorem sc_source : FnScope ["script"] ["script"] (defScope st_source) := ⟨rfl, rfl, rfl, by decide +kernel, rfl, by decide +kernel, by decide +kernel⟩
theorem s_source_script : (defScope st_source).names.lookup ("script" : Str) = some NameKind.local := by decide +kernel
theorem sc_draw : FnScope ["feed", "choices", "found", "cell", "mixed"] ["feed", "choices"] (defScope st_draw) := ⟨rfl, rfl, rfl, by decide +kernel, rfl, by decide +kernel, by decide +kernel⟩
theorem s_draw_feed : (defScope st_draw).names.lookup ("feed" : Str) = some NameKind.local := by decide +kernel
theorem s_draw_choices : (defScope st_draw).names.lookup ("choices" : Str) = some NameKind.local := by decide +kernel
theorem s_draw_found : (defScope st_draw).names.lookup ("found" : Str) = some NameKind.local := by decide +kernel
theorem s_draw_len : (defScope st_draw).names.lookup ("len" : Str) = some NameKind.globalImplicit := by decide +kernel
theorem s_draw_cell : (defScope st_draw).names.lookup ("cell" : Str) = some NameKind.local := by decide +kernel
theorem s_draw_mixed : (defScope st_draw).names.lookup ("mixed" : Str) = some NameKind.local := by decide +kernel
theorem sc_some : FnScope ["feed", "folk", "size", "rest", "found", "k"] ["feed", "folk", "size"] (defScope st_some) := ⟨rfl, rfl, rfl, by decide +kernel, rfl, by decide +kernel, by decide +kernel⟩
theorem s_some_folk : (defScope st_some).names.lookup ("folk" : Str) = some NameKind.local := by decide +kernel
theorem s_some_list : (defScope st_some).names.lookup ("list" : Str) = some NameKind.globalImplicit := by decide +kernel
theorem s_some_rest : (defScope st_some).names.lookup ("rest" : Str) = some NameKind.local := by decide +kernel
theorem s_some_found : (defScope st_some).names.lookup ("found" : Str) = some NameKind.local := by decide +kernel
theorem s_some_len : (defScope st_some).names.lookup ("len" : Str) = some NameKind.globalImplicit := by decide +kernel
theorem s_some_size : (defScope st_some).names.lookup ("size" : Str) = some NameKind.local := by decide +kernel
theorem s_some_min : (defScope st_some).names.lookup ("min" : Str) = some NameKind.globalImplicit := by decide +kernel
theorem s_some_range : (defScope st_some).names.lookup ("range" : Str) = some NameKind.globalImplicit := by decide +kernel
theorem s_some_k : (defScope st_some).names.lookup ("k" : Str) = some NameKind.local := by decide +kernel
theorem s_some_feed : (defScope st_some).names.lookup ("feed" : Str) = some NameKind.local := by decide +kernel
theorem s_some__law_draw : (defScope st_some).names.lookup ("_law_draw" : Str) = some NameKind.globalImplicit := by decide +kernel
theorem s_some_sorted : (defScope st_some).names.lookup ("sorted" : Str) = some NameKind.globalImplicit := by decide +kernel
theorem s_some_tuple : (defScope st_some).names.lookup ("tuple" : Str) = some NameKind.globalImplicit := by decide +kernel
theorem sc_pact : FnScope ["feed", "seats", "enough"] ["feed"] (defScope st_pact) := ⟨rfl, rfl, rfl, by decide +kernel, rfl, by decide +kernel, by decide +kernel⟩
theorem s_pact_feed : (defScope st_pact).names.lookup ("feed" : Str) = some NameKind.local := by decide +kernel
theorem s_pact__law_draw : (defScope st_pact).names.lookup ("_law_draw" : Str) = some NameKind.globalImplicit := by decide +kernel
theorem s_pact_seats : (defScope st_pact).names.lookup ("seats" : Str) = some NameKind.local := by decide +kernel
theorem s_pact_enough : (defScope st_pact).names.lookup ("enough" : Str) = some NameKind.local := by decide +kernel
theorem sc_folk : FnScope [] [] (defScope st_folk) := ⟨rfl, rfl, rfl, by decide +kernel, rfl, by decide +kernel, by decide +kernel⟩
theorem sc_titles : FnScope ["feed", "found", "town", "rise", "number", "k"] ["feed"] (defScope st_titles) := ⟨rfl, rfl, rfl, by decide +kernel, rfl, by decide +kernel, by decide +kernel⟩
theorem s_titles_found : (defScope st_titles).names.lookup ("found" : Str) = some NameKind.local := by decide +kernel
theorem s_titles_town : (defScope st_titles).names.lookup ("town" : Str) = some NameKind.local := by decide +kernel
theorem s_titles_rise : (defScope st_titles).names.lookup ("rise" : Str) = some NameKind.local := by decide +kernel
theorem s_titles_number : (defScope st_titles).names.lookup ("number" : Str) = some NameKind.local := by decide +kernel
theorem s_titles_feed : (defScope st_titles).names.lookup ("feed" : Str) = some NameKind.local := by decide +kernel
theorem s_titles__law_draw : (defScope st_titles).names.lookup ("_law_draw" : Str) = some NameKind.globalImplicit := by decide +kernel
theorem s_titles_range : (defScope st_titles).names.lookup ("range" : Str) = some NameKind.globalImplicit := by decide +kernel
theorem s_titles_k : (defScope st_titles).names.lookup ("k" : Str) = some NameKind.local := by decide +kernel
theorem sc_slips : FnScope ["feed", "titles", "path", "pool", "found", "k", "other", "one"] ["feed", "titles", "path"] (defScope st_slips) := ⟨rfl, rfl, rfl, by decide +kernel, rfl, by decide +kernel, by decide +kernel⟩
theorem s_slips_titles : (defScope st_slips).names.lookup ("titles" : Str) = some NameKind.local := by decide +kernel
theorem s_slips_pool : (defScope st_slips).names.lookup ("pool" : Str) = some NameKind.local := by decide +kernel
theorem s_slips_found : (defScope st_slips).names.lookup ("found" : Str) = some NameKind.local := by decide +kernel
theorem s_slips_feed : (defScope st_slips).names.lookup ("feed" : Str) = some NameKind.local := by decide +kernel
theorem s_slips__law_draw : (defScope st_slips).names.lookup ("_law_draw" : Str) = some NameKind.globalImplicit := by decide +kernel
theorem s_slips_range : (defScope st_slips).names.lookup ("range" : Str) = some NameKind.globalImplicit := by decide +kernel
theorem s_slips_k : (defScope st_slips).names.lookup ("k" : Str) = some NameKind.local := by decide +kernel
theorem s_slips_len : (defScope st_slips).names.lookup ("len" : Str) = some NameKind.globalImplicit := by decide +kernel
theorem s_slips_other : (defScope st_slips).names.lookup ("other" : Str) = some NameKind.local := by decide +kernel
theorem s_slips__law_folk : (defScope st_slips).names.lookup ("_law_folk" : Str) = some NameKind.globalImplicit := by decide +kernel
theorem s_slips__law_some : (defScope st_slips).names.lookup ("_law_some" : Str) = some NameKind.globalImplicit := by decide +kernel
theorem s_slips_sorted : (defScope st_slips).names.lookup ("sorted" : Str) = some NameKind.globalImplicit := by decide +kernel
theorem s_slips_tuple : (defScope st_slips).names.lookup ("tuple" : Str) = some NameKind.globalImplicit := by decide +kernel
theorem sc_votes : FnScope ["feed", "pact", "seats", "found", "way", "end", "voters", "who"] ["feed", "pact", "seats"] (defScope st_votes) := ⟨rfl, rfl, rfl, by decide +kernel, rfl, by decide +kernel, by decide +kernel⟩
theorem s_votes_feed : (defScope st_votes).names.lookup ("feed" : Str) = some NameKind.local := by decide +kernel
theorem s_votes__law_draw : (defScope st_votes).names.lookup ("_law_draw" : Str) = some NameKind.globalImplicit := by decide +kernel
theorem s_votes_found : (defScope st_votes).names.lookup ("found" : Str) = some NameKind.local := by decide +kernel
theorem s_votes_way : (defScope st_votes).names.lookup ("way" : Str) = some NameKind.local := by decide +kernel
theorem s_votes_seats : (defScope st_votes).names.lookup ("seats" : Str) = some NameKind.local := by decide +kernel
theorem s_votes_len : (defScope st_votes).names.lookup ("len" : Str) = some NameKind.globalImplicit := by decide +kernel
theorem s_votes_pact : (defScope st_votes).names.lookup ("pact" : Str) = some NameKind.local := by decide +kernel
theorem s_votes_end : (defScope st_votes).names.lookup ("end" : Str) = some NameKind.local := by decide +kernel
theorem s_votes__law_some : (defScope st_votes).names.lookup ("_law_some" : Str) = some NameKind.globalImplicit := by decide +kernel
theorem s_votes_voters : (defScope st_votes).names.lookup ("voters" : Str) = some NameKind.local := by decide +kernel
theorem s_votes_who : (defScope st_votes).names.lookup ("who" : Str) = some NameKind.local := by decide +kernel
theorem s_votes_tuple : (defScope st_votes).names.lookup ("tuple" : Str) = some NameKind.globalImplicit := by decide +kernel
theorem sc_case : FnScope ["feed", "pact", "titles", "found", "title", "unders", "under", "path", "above", "seats", "gone", "slips", "voices", "slip", "votes", "end", "one"] ["feed", "pact", "titles", "found", "title"] (defScope st_case) := ⟨rfl, rfl, rfl, by decide +kernel, rfl, by decide +kernel, by decide +kernel⟩
theorem s_case_unders : (defScope st_case).names.lookup ("unders" : Str) = some NameKind.local := by decide +kernel
theorem s_case_found : (defScope st_case).names.lookup ("found" : Str) = some NameKind.local := by decide +kernel
theorem s_case_feed : (defScope st_case).names.lookup ("feed" : Str) = some NameKind.local := by decide +kernel
theorem s_case__law_draw : (defScope st_case).names.lookup ("_law_draw" : Str) = some NameKind.globalImplicit := by decide +kernel
theorem s_case_len : (defScope st_case).names.lookup ("len" : Str) = some NameKind.globalImplicit := by decide +kernel
theorem s_case_under : (defScope st_case).names.lookup ("under" : Str) = some NameKind.local := by decide +kernel
theorem s_case_title : (defScope st_case).names.lookup ("title" : Str) = some NameKind.cell := by decide +kernel
theorem s_case_path : (defScope st_case).names.lookup ("path" : Str) = some NameKind.local := by decide +kernel
theorem s_case_above : (defScope st_case).names.lookup ("above" : Str) = some NameKind.cell := by decide +kernel
theorem s_case_pact : (defScope st_case).names.lookup ("pact" : Str) = some NameKind.local := by decide +kernel
theorem s_case__law_folk : (defScope st_case).names.lookup ("_law_folk" : Str) = some NameKind.globalImplicit := by decide +kernel
theorem s_case__law_some : (defScope st_case).names.lookup ("_law_some" : Str) = some NameKind.globalImplicit := by decide +kernel
theorem s_case_seats : (defScope st_case).names.lookup ("seats" : Str) = some NameKind.local := by decide +kernel
theorem s_case_gone : (defScope st_case).names.lookup ("gone" : Str) = some NameKind.local := by decide +kernel
theorem s_case_titles : (defScope st_case).names.lookup ("titles" : Str) = some NameKind.local := by decide +kernel
theorem s_case__law_slips : (defScope st_case).names.lookup ("_law_slips" : Str) = some NameKind.globalImplicit := by decide +kernel
theorem s_case_slips : (defScope st_case).names.lookup ("slips" : Str) = some NameKind.local := by decide +kernel
theorem s_case_list : (defScope st_case).names.lookup ("list" : Str) = some NameKind.globalImplicit := by decide +kernel
theorem s_case_voices : (defScope st_case).names.lookup ("voices" : Str) = some NameKind.local := by decide +kernel
theorem s_case_slip : (defScope st_case).names.lookup ("slip" : Str) = some NameKind.local := by decide +kernel
theorem s_case__law_votes : (defScope st_case).names.lookup ("_law_votes" : Str) = some NameKind.globalImplicit := by decide +kernel
theorem s_case_votes : (defScope st_case).names.lookup ("votes" : Str) = some NameKind.local := by decide +kernel
theorem s_case_end : (defScope st_case).names.lookup ("end" : Str) = some NameKind.local := by decide +kernel
theorem s_case_sorted : (defScope st_case).names.lookup ("sorted" : Str) = some NameKind.globalImplicit := by decide +kernel
theorem s_case_set : (defScope st_case).names.lookup ("set" : Str) = some NameKind.globalImplicit := by decide +kernel
theorem s_case_tuple : (defScope st_case).names.lookup ("tuple" : Str) = some NameKind.globalImplicit := by decide +kernel
theorem sc_cases : FnScope ["feed", "pact", "titles", "found", "title"] ["feed", "pact"] (defScope st_cases) := ⟨rfl, rfl, rfl, by decide +kernel, rfl, by decide +kernel, by decide +kernel⟩
theorem s_cases_feed : (defScope st_cases).names.lookup ("feed" : Str) = some NameKind.local := by decide +kernel
theorem s_cases__law_titles : (defScope st_cases).names.lookup ("_law_titles" : Str) = some NameKind.globalImplicit := by decide +kernel
theorem s_cases_titles : (defScope st_cases).names.lookup ("titles" : Str) = some NameKind.local := by decide +kernel
theorem s_cases_found : (defScope st_cases).names.lookup ("found" : Str) = some NameKind.local := by decide +kernel
theorem s_cases_title : (defScope st_cases).names.lookup ("title" : Str) = some NameKind.local := by decide +kernel
theorem s_cases_pact : (defScope st_cases).names.lookup ("pact" : Str) = some NameKind.local := by decide +kernel
theorem s_cases__law_case : (defScope st_cases).names.lookup ("_law_case" : Str) = some NameKind.globalImplicit := by decide +kernel
theorem s_cases_tuple : (defScope st_cases).names.lookup ("tuple" : Str) = some NameKind.globalImplicit := by decide +kernel
theorem sc_find : FnScope ["cases", "title", "one"] ["cases", "title"] (defScope st_find) := ⟨rfl, rfl, rfl, by decide +kernel, rfl, by decide +kernel, by decide +kernel⟩
theorem s_find_cases : (defScope st_find).names.lookup ("cases" : Str) = some NameKind.local := by decide +kernel
theorem sc_stands : FnScope ["cases", "title", "own", "found", "later", "word", "one"] ["cases", "title"] (defScope st_stands) := ⟨rfl, rfl, rfl, by decide +kernel, rfl, by decide +kernel, by decide +kernel⟩
theorem s_stands_title : (defScope st_stands).names.lookup ("title" : Str) = some NameKind.cell := by decide +kernel
theorem s_stands_cases : (defScope st_stands).names.lookup ("cases" : Str) = some NameKind.local := by decide +kernel
theorem s_stands__law_find : (defScope st_stands).names.lookup ("_law_find" : Str) = some NameKind.globalImplicit := by decide +kernel
theorem s_stands_own : (defScope st_stands).names.lookup ("own" : Str) = some NameKind.local := by decide +kernel
theorem s_stands_found : (defScope st_stands).names.lookup ("found" : Str) = some NameKind.local := by decide +kernel
theorem s_stands_later : (defScope st_stands).names.lookup ("later" : Str) = some NameKind.local := by decide +kernel
theorem s_stands__law_stands : (defScope st_stands).names.lookup ("_law_stands" : Str) = some NameKind.globalImplicit := by decide +kernel
theorem s_stands_word : (defScope st_stands).names.lookup ("word" : Str) = some NameKind.local := by decide +kernel
theorem sc_own_is_turned : FnScope ["cases", "rumour", "slip", "later", "word", "one"] ["cases", "rumour", "slip"] (defScope st_own_is_turned) := ⟨rfl, rfl, rfl, by decide +kernel, rfl, by decide +kernel, by decide +kernel⟩
theorem s_own_is_turned_later : (defScope st_own_is_turned).names.lookup ("later" : Str) = some NameKind.local := by decide +kernel
theorem s_own_is_turned_rumour : (defScope st_own_is_turned).names.lookup ("rumour" : Str) = some NameKind.local := by decide +kernel
theorem s_own_is_turned_word : (defScope st_own_is_turned).names.lookup ("word" : Str) = some NameKind.local := by decide +kernel
theorem s_own_is_turned_slip : (defScope st_own_is_turned).names.lookup ("slip" : Str) = some NameKind.cell := by decide +kernel
theorem s_own_is_turned_cases : (defScope st_own_is_turned).names.lookup ("cases" : Str) = some NameKind.local := by decide +kernel
theorem s_own_is_turned__law_stands : (defScope st_own_is_turned).names.lookup ("_law_stands" : Str) = some NameKind.globalImplicit := by decide +kernel
theorem sc_rests : FnScope ["cases", "titles", "found", "more", "one", "led", "slip"] ["cases", "titles"] (defScope st_rests) := ⟨rfl, rfl, rfl, by decide +kernel, rfl, by decide +kernel, by decide +kernel⟩
theorem s_rests_found : (defScope st_rests).names.lookup ("found" : Str) = some NameKind.cell := by decide +kernel
theorem s_rests_more : (defScope st_rests).names.lookup ("more" : Str) = some NameKind.local := by decide +kernel
theorem s_rests_cases : (defScope st_rests).names.lookup ("cases" : Str) = some NameKind.local := by decide +kernel
theorem s_rests_one : (defScope st_rests).names.lookup ("one" : Str) = some NameKind.local := by decide +kernel
theorem s_rests_led : (defScope st_rests).names.lookup ("led" : Str) = some NameKind.local := by decide +kernel
theorem s_rests_sorted : (defScope st_rests).names.lookup ("sorted" : Str) = some NameKind.globalImplicit := by decide +kernel
theorem s_rests_tuple : (defScope st_rests).names.lookup ("tuple" : Str) = some NameKind.globalImplicit := by decide +kernel
theorem sc_own_shaken : FnScope ["cases", "rumour", "first", "one", "slip"] ["cases", "rumour"] (defScope st_own_shaken) := ⟨rfl, rfl, rfl, by decide +kernel, rfl, by decide +kernel, by decide +kernel⟩
theorem s_own_shaken_first : (defScope st_own_shaken).names.lookup ("first" : Str) = some NameKind.local := by decide +kernel
theorem s_own_shaken_cases : (defScope st_own_shaken).names.lookup ("cases" : Str) = some NameKind.cell := by decide +kernel
theorem s_own_shaken__law_rests : (defScope st_own_shaken).names.lookup ("_law_rests" : Str) = some NameKind.globalImplicit := by decide +kernel
theorem s_own_shaken_list : (defScope st_own_shaken).names.lookup ("list" : Str) = some NameKind.globalImplicit := by decide +kernel
theorem s_own_shaken_sorted : (defScope st_own_shaken).names.lookup ("sorted" : Str) = some NameKind.globalImplicit := by decide +kernel
theorem s_own_shaken_set : (defScope st_own_shaken).names.lookup ("set" : Str) = some NameKind.globalImplicit := by decide +kernel
theorem s_own_shaken_tuple : (defScope st_own_shaken).names.lookup ("tuple" : Str) = some NameKind.globalImplicit := by decide +kernel
theorem sc_rumour : FnScope ["feed", "titles", "found", "pool", "k", "other"] ["feed", "titles"] (defScope st_rumour) := ⟨rfl, rfl, rfl, by decide +kernel, rfl, by decide +kernel, by decide +kernel⟩
theorem s_rumour_titles : (defScope st_rumour).names.lookup ("titles" : Str) = some NameKind.local := by decide +kernel
theorem s_rumour_found : (defScope st_rumour).names.lookup ("found" : Str) = some NameKind.local := by decide +kernel
theorem s_rumour_pool : (defScope st_rumour).names.lookup ("pool" : Str) = some NameKind.local := by decide +kernel
theorem s_rumour_feed : (defScope st_rumour).names.lookup ("feed" : Str) = some NameKind.local := by decide +kernel
theorem s_rumour__law_draw : (defScope st_rumour).names.lookup ("_law_draw" : Str) = some NameKind.globalImplicit := by decide +kernel
theorem s_rumour_range : (defScope st_rumour).names.lookup ("range" : Str) = some NameKind.globalImplicit := by decide +kernel
theorem s_rumour_k : (defScope st_rumour).names.lookup ("k" : Str) = some NameKind.local := by decide +kernel
theorem s_rumour_len : (defScope st_rumour).names.lookup ("len" : Str) = some NameKind.globalImplicit := by decide +kernel
theorem s_rumour_other : (defScope st_rumour).names.lookup ("other" : Str) = some NameKind.local := by decide +kernel
theorem s_rumour__law_folk : (defScope st_rumour).names.lookup ("_law_folk" : Str) = some NameKind.globalImplicit := by decide +kernel
theorem s_rumour__law_some : (defScope st_rumour).names.lookup ("_law_some" : Str) = some NameKind.globalImplicit := by decide +kernel
theorem s_rumour_tuple : (defScope st_rumour).names.lookup ("tuple" : Str) = some NameKind.globalImplicit := by decide +kernel
theorem sc_made : FnScope ["title", "under", "seats", "slips", "word", "voices", "slip", "votes", "who"] ["title", "under", "seats", "slips", "word"] (defScope st_made) := ⟨rfl, rfl, rfl, by decide +kernel, rfl, by decide +kernel, by decide +kernel⟩
theorem s_made_seats : (defScope st_made).names.lookup ("seats" : Str) = some NameKind.local := by decide +kernel
theorem s_made_list : (defScope st_made).names.lookup ("list" : Str) = some NameKind.globalImplicit := by decide +kernel
theorem s_made_voices : (defScope st_made).names.lookup ("voices" : Str) = some NameKind.local := by decide +kernel
theorem s_made_slips : (defScope st_made).names.lookup ("slips" : Str) = some NameKind.local := by decide +kernel
theorem s_made_slip : (defScope st_made).names.lookup ("slip" : Str) = some NameKind.local := by decide +kernel
theorem s_made_tuple : (defScope st_made).names.lookup ("tuple" : Str) = some NameKind.globalImplicit := by decide +kernel
theorem s_made_votes : (defScope st_made).names.lookup ("votes" : Str) = some NameKind.local := by decide +kernel
theorem s_made_word : (defScope st_made).names.lookup ("word" : Str) = some NameKind.cell := by decide +kernel
theorem s_made_sorted : (defScope st_made).names.lookup ("sorted" : Str) = some NameKind.globalImplicit := by decide +kernel
theorem s_made_set : (defScope st_made).names.lookup ("set" : Str) = some NameKind.globalImplicit := by decide +kernel
theorem s_made_under : (defScope st_made).names.lookup ("under" : Str) = some NameKind.local := by decide +kernel
theorem s_made_title : (defScope st_made).names.lookup ("title" : Str) = some NameKind.local := by decide +kernel
theorem sc_long : FnScope ["more", "word", "found", "k", "heard_of", "slips", "j"] ["more", "word"] (defScope st_long) := ⟨rfl, rfl, rfl, by decide +kernel, rfl, by decide +kernel, by decide +kernel⟩
theorem s_long__law_made : (defScope st_long).names.lookup ("_law_made" : Str) = some NameKind.globalImplicit := by decide +kernel
theorem s_long_found : (defScope st_long).names.lookup ("found" : Str) = some NameKind.local := by decide +kernel
theorem s_long_range : (defScope st_long).names.lookup ("range" : Str) = some NameKind.globalImplicit := by decide +kernel
theorem s_long_k : (defScope st_long).names.lookup ("k" : Str) = some NameKind.cell := by decide +kernel
theorem s_long_more : (defScope st_long).names.lookup ("more" : Str) = some NameKind.local := by decide +kernel
theorem s_long_int : (defScope st_long).names.lookup ("int" : Str) = some NameKind.globalImplicit := by decide +kernel
theorem s_long_heard_of : (defScope st_long).names.lookup ("heard_of" : Str) = some NameKind.local := by decide +kernel
theorem s_long_slips : (defScope st_long).names.lookup ("slips" : Str) = some NameKind.local := by decide +kernel
theorem s_long_tuple : (defScope st_long).names.lookup ("tuple" : Str) = some NameKind.globalImplicit := by decide +kernel
theorem sc_law : FnScope ["script", "feed", "turn", "cases", "titles", "rumour", "kept", "title", "due", "bare", "told", "one"] ["script"] (defScope st_law) := ⟨rfl, rfl, rfl, by decide +kernel, rfl, by decide +kernel, by decide +kernel⟩
theorem s_law_script : (defScope st_law).names.lookup ("script" : Str) = some NameKind.local := by decide +kernel
theorem s_law__law_source : (defScope st_law).names.lookup ("_law_source" : Str) = some NameKind.globalImplicit := by decide +kernel
theorem s_law_feed : (defScope st_law).names.lookup ("feed" : Str) = some NameKind.local := by decide +kernel
theorem s_law_range : (defScope st_law).names.lookup ("range" : Str) = some NameKind.globalImplicit := by decide +kernel
theorem s_law_turn : (defScope st_law).names.lookup ("turn" : Str) = some NameKind.local := by decide +kernel
theorem s_law__law_pact : (defScope st_law).names.lookup ("_law_pact" : Str) = some NameKind.globalImplicit := by decide +kernel
theorem s_law__law_cases : (defScope st_law).names.lookup ("_law_cases" : Str) = some NameKind.globalImplicit := by decide +kernel
theorem s_law__law_long : (defScope st_law).names.lookup ("_law_long" : Str) = some NameKind.globalImplicit := by decide +kernel
theorem s_law_cases : (defScope st_law).names.lookup ("cases" : Str) = some NameKind.local := by decide +kernel
theorem s_law_titles : (defScope st_law).names.lookup ("titles" : Str) = some NameKind.local := by decide +kernel
theorem s_law__law_rumour : (defScope st_law).names.lookup ("_law_rumour" : Str) = some NameKind.globalImplicit := by decide +kernel
theorem s_law_rumour : (defScope st_law).names.lookup ("rumour" : Str) = some NameKind.local := by decide +kernel
theorem s_law_repr : (defScope st_law).names.lookup ("repr" : Str) = some NameKind.globalImplicit := by decide +kernel
theorem s_law_kept : (defScope st_law).names.lookup ("kept" : Str) = some NameKind.local := by decide +kernel
theorem s_law_title : (defScope st_law).names.lookup ("title" : Str) = some NameKind.local := by decide +kernel
theorem s_law__law_rests : (defScope st_law).names.lookup ("_law_rests" : Str) = some NameKind.globalImplicit := by decide +kernel
theorem s_law_due : (defScope st_law).names.lookup ("due" : Str) = some NameKind.local := by decide +kernel
theorem s_law_rests_on : (defScope st_law).names.lookup ("rests_on" : Str) = some NameKind.globalImplicit := by decide +kernel
theorem s_law__law_shaken : (defScope st_law).names.lookup ("_law_shaken" : Str) = some NameKind.globalImplicit := by decide +kernel
theorem s_law_bare : (defScope st_law).names.lookup ("bare" : Str) = some NameKind.local := by decide +kernel
theorem s_law_shaken : (defScope st_law).names.lookup ("shaken" : Str) = some NameKind.globalImplicit := by decide +kernel
theorem s_law_told : (defScope st_law).names.lookup ("told" : Str) = some NameKind.local := by decide +kernel
section
variable {P : Program} {w : World} {K : PySem.W.Frag} {mg : Str → Option Value} {base : Heap} {XR : Hp → Hp → Value → Option Addr → Xc → Prop}
structure Zs (K : PySem.W.Frag) (mg : Str → Option Value) (f_all_standing : Addr) (d_all_standing : FuncData) (f_readers_of : Addr) (d_readers_of : FuncData) (f_all_resting : Addr) (d_all_resting : FuncData) (f_rests_on : Addr) (d_rests_on : FuncData) (f_all_known : Addr) (d_all_known : FuncData) (f_is_turned : Addr) (d_is_turned : FuncData) (f_shaken : Addr) (d_shaken : FuncData) (f_source : Addr) (d_source : FuncData) (f_draw : Addr) (d_draw : FuncData) (f_some : Addr) (d_some : FuncData) (f_pact : Addr) (d_pact : FuncData) (f_folk : Addr) (d_folk : FuncData) (f_titles : Addr) (d_titles : FuncData) (f_slips : Addr) (d_slips : FuncData) (f_votes : Addr) (d_votes : FuncData) (f_case : Addr) (d_case : FuncData) (f_cases : Addr) (d_cases : FuncData) (f_find : Addr) (d_find : FuncData) (f_stands : Addr) (d_stands : FuncData) (f_own_is_turned : Addr) (d_own_is_turned : FuncData) (f_rests : Addr) (d_rests : FuncData) (f_own_shaken : Addr) (d_own_shaken : FuncData) (f_rumour : Addr) (d_rumour : FuncData) (f_made : Addr) (d_made : FuncData) (f_long : Addr) (d_long : FuncData) (T_shaken_news : Addr) (V_VERDICTS : V) (U_VERDICTS : Value) : Prop where
  m_VERDICTS : mg "VERDICTS" = some U_VERDICTS
  r_VERDICTS : RelV V_VERDICTS U_VERDICTS
  v_VERDICTS : ∀ (K2 : Kw), K2.fr = K → ∀ F, DV K2 F V_VERDICTS (.tuple [(.str "yes"), (.str "no")])
  n_any : mg "any" = none
  n_int : mg "int" = none
  n_len : mg "len" = none
  n_list : mg "list" = none
  n_min : mg "min" = none
  n_range : mg "range" = none
  n_repr : mg "repr" = none
  n_reversed : mg "reversed" = none
  n_set : mg "set" = none
  n_sorted : mg "sorted" = none
  n_tuple : mg "tuple" = none
  g_all_standing : mg "all_standing" = some (.ref f_all_standing)
  k_all_standing : PySem.W.keepIn K (.ref f_all_standing) = true
  b_all_standing : Binds K d_all_standing ["matters"] []
  g_readers_of : mg "readers_of" = some (.ref f_readers_of)
  k_readers_of : PySem.W.keepIn K (.ref f_readers_of) = true
  b_readers_of : Binds K d_readers_of ["matters", "name"] []
  g_all_resting : mg "all_resting" = some (.ref f_all_resting)
  k_all_resting : PySem.W.keepIn K (.ref f_all_resting) = true
  b_all_resting : Binds K d_all_resting ["matters", "names"] []
  g_rests_on : mg "rests_on" = some (.ref f_rests_on)
  k_rests_on : PySem.W.keepIn K (.ref f_rests_on) = true
  b_rests_on : Binds K d_rests_on ["matters", "name"] []
  g_all_known : mg "all_known" = some (.ref f_all_known)
  k_all_known : PySem.W.keepIn K (.ref f_all_known) = true
  b_all_known : Binds K d_all_known ["matters", "news"] []
  g_is_turned : mg "is_turned" = some (.ref f_is_turned)
  k_is_turned : PySem.W.keepIn K (.ref f_is_turned) = true
  b_is_turned : Binds K d_is_turned ["note", "known"] []
  g_shaken : mg "shaken" = some (.ref f_shaken)
  k_shaken : PySem.W.keepIn K (.ref f_shaken) = true
  b_shaken : BindsK K d_shaken ["matters", "news"] ["news"] 1 1
  g_source : mg "_law_source" = some (.ref f_source)
  k_source : PySem.W.keepIn K (.ref f_source) = true
  b_source : Binds K d_source ["script"] []
  g_draw : mg "_law_draw" = some (.ref f_draw)
  k_draw : PySem.W.keepIn K (.ref f_draw) = true
  b_draw : Binds K d_draw ["feed", "choices"] []
  g_some : mg "_law_some" = some (.ref f_some)
  k_some : PySem.W.keepIn K (.ref f_some) = true
  b_some : Binds K d_some ["feed", "folk", "size"] []
  g_pact : mg "_law_pact" = some (.ref f_pact)
  k_pact : PySem.W.keepIn K (.ref f_pact) = true
  b_pact : Binds K d_pact ["feed"] []
  g_folk : mg "_law_folk" = some (.ref f_folk)
  k_folk : PySem.W.keepIn K (.ref f_folk) = true
  b_folk : Binds K d_folk [] []
  g_titles : mg "_law_titles" = some (.ref f_titles)
  k_titles : PySem.W.keepIn K (.ref f_titles) = true
  b_titles : Binds K d_titles ["feed"] []
  g_slips : mg "_law_slips" = some (.ref f_slips)
  k_slips : PySem.W.keepIn K (.ref f_slips) = true
  b_slips : Binds K d_slips ["feed", "titles", "path"] []
  g_votes : mg "_law_votes" = some (.ref f_votes)
  k_votes : PySem.W.keepIn K (.ref f_votes) = true
  b_votes : Binds K d_votes ["feed", "pact", "seats"] []
  g_case : mg "_law_case" = some (.ref f_case)
  k_case : PySem.W.keepIn K (.ref f_case) = true
  b_case : Binds K d_case ["feed", "pact", "titles", "found", "title"] []
  g_cases : mg "_law_cases" = some (.ref f_cases)
  k_cases : PySem.W.keepIn K (.ref f_cases) = true
  b_cases : Binds K d_cases ["feed", "pact"] []
  g_find : mg "_law_find" = some (.ref f_find)
  k_find : PySem.W.keepIn K (.ref f_find) = true
  b_find : Binds K d_find ["cases", "title"] []
  g_stands : mg "_law_stands" = some (.ref f_stands)
  k_stands : PySem.W.keepIn K (.ref f_stands) = true
  b_stands : Binds K d_stands ["cases", "title"] []
  g_own_is_turned : mg "_law_is_turned" = some (.ref f_own_is_turned)
  k_own_is_turned : PySem.W.keepIn K (.ref f_own_is_turned) = true
  b_own_is_turned : Binds K d_own_is_turned ["cases", "rumour", "slip"] []
  g_rests : mg "_law_rests" = some (.ref f_rests)
  k_rests : PySem.W.keepIn K (.ref f_rests) = true
  b_rests : Binds K d_rests ["cases", "titles"] []
  g_own_shaken : mg "_law_shaken" = some (.ref f_own_shaken)
  k_own_shaken : PySem.W.keepIn K (.ref f_own_shaken) = true
  b_own_shaken : Binds K d_own_shaken ["cases", "rumour"] []
  g_rumour : mg "_law_rumour" = some (.ref f_rumour)
  k_rumour : PySem.W.keepIn K (.ref f_rumour) = true
  b_rumour : Binds K d_rumour ["feed", "titles"] []
  g_made : mg "_law_made" = some (.ref f_made)
  k_made : PySem.W.keepIn K (.ref f_made) = true
  b_made : Binds K d_made ["title", "under", "seats", "slips", "word"] []
  g_long : mg "_law_long" = some (.ref f_long)
  k_long : PySem.W.keepIn K (.ref f_long) = true
  b_long : Binds K d_long ["more", "word"] []
  p_folk_0_ : BindsP K d_folk [] [] 0 0 []
  q_folk_0_ : pkOk K (0 + 0) []
  p_rests_on_0_name_matters : BindsP K d_rests_on ["matters", "name"] ["name", "matters"] 0 2 [.inl 1, .inl 0]
  q_rests_on_0_name_matters : pkOk K (0 + 2) [.inl 1, .inl 0]
  p_shaken_1_ : BindsP K d_shaken ["matters", "news"] [] 1 0 [.inl 0, .inr ((.ref T_shaken_news), (.ref T_shaken_news), (.tuple []))]
  q_shaken_1_ : pkOk K (1 + 0) [.inl 0, .inr ((.ref T_shaken_news), (.ref T_shaken_news), (.tuple []))]
  p_shaken_0_news_matters : BindsP K d_shaken ["matters", "news"] ["news", "matters"] 0 2 [.inl 1, .inl 0]
  q_shaken_0_news_matters : pkOk K (0 + 2) [.inl 1, .inl 0]
variable {f_all_standing : Addr} {d_all_standing : FuncData} {f_readers_of : Addr} {d_readers_of : FuncData} {f_all_resting : Addr} {d_all_resting : FuncData} {f_rests_on : Addr} {d_rests_on : FuncData} {f_all_known : Addr} {d_all_known : FuncData} {f_is_turned : Addr} {d_is_turned : FuncData} {f_shaken : Addr} {d_shaken : FuncData} {f_source : Addr} {d_source : FuncData} {f_draw : Addr} {d_draw : FuncData} {f_some : Addr} {d_some : FuncData} {f_pact : Addr} {d_pact : FuncData} {f_folk : Addr} {d_folk : FuncData} {f_titles : Addr} {d_titles : FuncData} {f_slips : Addr} {d_slips : FuncData} {f_votes : Addr} {d_votes : FuncData} {f_case : Addr} {d_case : FuncData} {f_cases : Addr} {d_cases : FuncData} {f_find : Addr} {d_find : FuncData} {f_stands : Addr} {d_stands : FuncData} {f_own_is_turned : Addr} {d_own_is_turned : FuncData} {f_rests : Addr} {d_rests : FuncData} {f_own_shaken : Addr} {d_own_shaken : FuncData} {f_rumour : Addr} {d_rumour : FuncData} {f_made : Addr} {d_made : FuncData} {f_long : Addr} {d_long : FuncData} {V_VERDICTS : V} {U_VERDICTS : Value} {T_shaken_news : Addr}
theorem ok_all_standing {f : Addr} {fd : FuncData} (Z : Zs K mg f_all_standing d_all_standing f_readers_of d_readers_of f_all_resting d_all_resting f_rests_on d_rests_on f_all_known d_all_known f_is_turned d_is_turned f_shaken d_shaken f_source d_source f_draw d_draw f_some d_some f_pact d_pact f_folk d_folk f_titles d_titles f_slips d_slips f_votes d_votes f_case d_case f_cases d_cases f_find d_find f_stands d_stands f_own_is_turned d_own_is_turned f_rests d_rests f_own_shaken d_own_shaken f_rumour d_rumour f_made d_made f_long d_long T_shaken_news V_VERDICTS U_VERDICTS) (F0 : Fun K "all_standing" "all_standing" st_all_standing f fd)  : FnG P w K mg base (L2.CX P w) 1 f fd ["matters"] (spI K w mg XR 1 Lw.fn_all_standing) := by
  refine okI (N := ["matters", "stands", "name", "lower", "_", "end"]) (ps := ["matters"]) (k := 0) (body := Lw.m_all_standing) [false] F0 sc_all_standing rfl (by decide) fun cdv A outer s H E hg hr => ?_
  have hu := hr.units
  have hu1 := hr.units1
  have tk : Takes (cxOf (L2.CX P w) P w K mg base ["matters", "stands", "name", "lower", "_", "end"] "all_standing" (defScope st_all_standing) f cdv A outer s H E) (fun cls d _ H' => E cls d H') := takes_of rfl rfl rfl rfl
  exact ss_cons (s_set (i := 1) sc_all_standing.nd rfl (.inl s_all_standing_stands) (o_knew)) (ss_cons (s_for (n := 6) (passes_of rfl) rfl (i_rev s_all_standing_reversed Z.n_reversed (d_name (pe_var (i := 0) rfl (.inl s_all_standing_matters)))) (pg_tup (n := 7) rfl (pgs_cons (pg_name (i := 2) sc_all_standing.nd rfl (.inl s_all_standing_name)) (pgs_cons (pg_name (i := 3) sc_all_standing.nd rfl (.inl s_all_standing_lower)) (pgs_cons (pg_name (i := 4) sc_all_standing.nd rfl (.inl s_all_standing__)) (pgs_cons (pg_name (i := 4) sc_all_standing.nd rfl (.inl s_all_standing__)) (pgs_cons (pg_name (i := 4) sc_all_standing.nd rfl (.inl s_all_standing__)) (pgs_cons (pg_name (i := 4) sc_all_standing.nd rfl (.inl s_all_standing__)) (pgs_cons (pg_name (i := 5) sc_all_standing.nd rfl (.inl s_all_standing_end)) (pgs_nil))))))))) (g_tup (.cons (g_name) (.cons (g_name) (.cons (g_name) (.cons (g_name) (.cons (g_name) (.cons (g_name) (.cons (g_name) (.nil))))))))) (ss_cons (s_if (t_w (w_and (t_knot (u9 hu) (d_name (pe_var (i := 2) rfl (.inl s_all_standing_name))) (pe_var (i := 1) rfl (.inl s_all_standing_stands))) (w_one1 (t_cmp (od_in hu) (a_name (pe_var (i := 5) rfl (.inl s_all_standing_end))) (a_of_d (d_const s_all_standing_VERDICTS Z.m_VERDICTS Z.r_VERDICTS (Z.v_VERDICTS _ rfl))))))) (ss_one (s_kput (u9 hu) (pe_var (i := 1) rfl (.inl s_all_standing_stands)) (d_name (pe_var (i := 2) rfl (.inl s_all_standing_name))) (d_name (pe_var (i := 5) rfl (.inl s_all_standing_end))))) (ss_nil)) (ss_one (s_if (t_w (w_and (t_kin (u9 hu) (d_name (pe_var (i := 2) rfl (.inl s_all_standing_name))) (pe_var (i := 1) rfl (.inl s_all_standing_stands))) (w_and (t_notN (a_name (pe_var (i := 3) rfl (.inl s_all_standing_lower)))) (w_one1 (t_knot (u9 hu) (d_name (pe_var (i := 3) rfl (.inl s_all_standing_lower))) (pe_var (i := 1) rfl (.inl s_all_standing_stands))))))) (ss_one (s_kput (u9 hu) (pe_var (i := 1) rfl (.inl s_all_standing_stands)) (d_name (pe_var (i := 3) rfl (.inl s_all_standing_lower))) (d_kget (u9 hu) (pe_var (i := 1) rfl (.inl s_all_standing_stands)) (d_name (pe_var (i := 2) rfl (.inl s_all_standing_name))) (fun _ _ => rfl)))) (ss_nil))))) (ss_one (s_ret (o_take (pe_var (i := 1) rfl (.inl s_all_standing_stands))))))
theorem ok_readers_of {f : Addr} {fd : FuncData} (Z : Zs K mg f_all_standing d_all_standing f_readers_of d_readers_of f_all_resting d_all_resting f_rests_on d_rests_on f_all_known d_all_known f_is_turned d_is_turned f_shaken d_shaken f_source d_source f_draw d_draw f_some d_some f_pact d_pact f_folk d_folk f_titles d_titles f_slips d_slips f_votes d_votes f_case d_case f_cases d_cases f_find d_find f_stands d_stands f_own_is_turned d_own_is_turned f_rests d_rests f_own_shaken d_own_shaken f_rumour d_rumour f_made d_made f_long d_long T_shaken_news V_VERDICTS U_VERDICTS) (F0 : Fun K "readers_of" "readers_of" st_readers_of f fd)  : FnG P w K mg base (L2.CX P w) 1 f fd ["matters", "name"] (spI K w mg XR 2 Lw.fn_readers_of) := by
  refine okI (N := ["matters", "name", "matter", "note"]) (ps := ["matters", "name"]) (k := 0) (body := Lw.m_readers_of) [false, false] F0 sc_readers_of rfl (by decide) fun cdv A outer s H E hg hr => ?_
  have hu := hr.units
  have hu1 := hr.units1
  have tk : Takes (cxOf (L2.CX P w) P w K mg base ["matters", "name", "matter", "note"] "readers_of" (defScope st_readers_of) f cdv A outer s H E) (fun cls d _ H' => E cls d H') := takes_of rfl rfl rfl rfl
  exact ss_one (s_ret (o_comp (n := 4) (own := [("matter", 2)]) rfl sc_readers_of.nd (i_seq (d_name (pe_var (i := 0) rfl (.inl s_readers_of_matters)))) (blkOk_by (N := ["matters", "name", "matter", "note"]) (sc := defScope st_readers_of) (own := [("matter", 2)]) (by decide +kernel)) (fun _ _ _ _ _ => pg_name (i := 2) sc_readers_of.nd rfl (.inl rfl)) (g_name) (fun _ _ _ _ _ => c_one (t_cmp (od_in hu) (a_name (pe_var (i := 1) rfl (.inr (.inl (blk_look (sc := defScope st_readers_of) rfl (by decide +kernel)))))) (a_of_d (d_of_o (o_comp (n := 4) (own := [("note", 3)]) rfl sc_readers_of.nd (i_seq (d_ix (a_name (pe_var (i := 2) rfl (.inl rfl))) (a_of_d (d_int)) (fun _ _ => rfl))) (blkOk2 (N := ["matters", "name", "matter", "note"]) (sc := defScope st_readers_of) (own := [("note", 3)]) rfl (by decide +kernel)) (fun _ _ _ _ _ => pg_name (i := 3) sc_readers_of.nd rfl (.inl rfl)) (g_name) (fun _ _ _ _ _ => c_none) (fun _ _ _ _ _ => d_ix (a_name (pe_var (i := 3) rfl (.inl rfl))) (a_of_d (d_int)) (fun _ _ => rfl))))))) (fun _ _ _ _ _ => d_ix (a_name (pe_var (i := 2) rfl (.inl rfl))) (a_of_d (d_int)) (fun _ _ => rfl))))
theorem ok_all_resting {f : Addr} {fd : FuncData} (Z : Zs K mg f_all_standing d_all_standing f_readers_of d_readers_of f_all_resting d_all_resting f_rests_on d_rests_on f_all_known d_all_known f_is_turned d_is_turned f_shaken d_shaken f_source d_source f_draw d_draw f_some d_some f_pact d_pact f_folk d_folk f_titles d_titles f_slips d_slips f_votes d_votes f_case d_case f_cases d_cases f_find d_find f_stands d_stands f_own_is_turned d_own_is_turned f_rests d_rests f_own_shaken d_own_shaken f_rumour d_rumour f_made d_made f_long d_long T_shaken_news V_VERDICTS U_VERDICTS) (F0 : Fun K "all_resting" "all_resting" st_all_resting f fd) (F_readers_of : FnG P w K mg base (L2.CX P w) 1 f_readers_of d_readers_of ["matters", "name"] (spI K w mg XR 2 Lw.fn_readers_of)) : FnG P w K mg base (L2.CX P w) 2 f fd ["matters", "names"] (spI K w mg XR 2 Lw.fn_all_resting) := by
  refine okI (N := ["matters", "names", "resting", "asked", "name", "more", "one"]) (ps := ["matters", "names"]) (k := 1) (body := Lw.m_all_resting) [false, false] F0 sc_all_resting rfl (by decide) fun cdv A outer s H E hg hr => ?_
  have hu := hr.units
  have hu1 := hr.units1
  have tk : Takes (cxOf (L2.CX P w) P w K mg base ["matters", "names", "resting", "asked", "name", "more", "one"] "all_resting" (defScope st_all_resting) f cdv A outer s H E) (fun cls d _ H' => E cls d H') := takes_of rfl rfl rfl rfl
  exact ss_cons (s_set (i := 2) sc_all_resting.nd rfl (.inr s_all_resting_resting) (o_lst (l_nil))) (ss_cons (s_set (i := 3) sc_all_resting.nd rfl (.inl s_all_resting_asked) (o_callTy co_list s_all_resting_list Z.n_list b_list (l_cons (a_name (pe_var (i := 1) rfl (.inl s_all_resting_names))) (l_nil)))) (ss_cons (s_while 5000 (passes_of rfl) (t_olT (pe_var (i := 3) rfl (.inl s_all_resting_asked))) (ss_cons (s_set (i := 4) sc_all_resting.nd rfl (.inl s_all_resting_name) (o_of_d (x_pop (pe_var (i := 3) rfl (.inl s_all_resting_asked))))) (ss_cons (s_setC (n := 7) (own := [("one", 6)]) (i := 5) rfl sc_all_resting.nd rfl s_all_resting_more (sw_true rfl s_all_resting_more rfl rfl) (i_seq (d_of_o (o_fn F_readers_of hg (hr.mono (by decide)) s_all_resting_readers_of Z.g_readers_of Z.k_readers_of Z.b_readers_of tk (l_cons (a_of_d (d_name (pe_var (i := 0) rfl (.inl s_all_resting_matters)))) (l_cons (a_of_d (d_name (pe_var (i := 4) rfl (.inl s_all_resting_name)))) (l_nil))) rfl (ll_cons (ll_cons (ll_nil)))))) (blkOk_by (N := ["matters", "names", "resting", "asked", "name", "more", "one"]) (sc := defScope st_all_resting) (own := [("one", 6)]) (by decide +kernel)) (fun _ _ _ _ _ => pg_name (i := 6) sc_all_resting.nd rfl (.inl rfl)) (g_name) (fun _ _ _ _ _ => c_one (t_cmp (od_notIn hu) (a_name (pe_var (i := 6) rfl (.inl rfl))) (a_name (pe_var (i := 2) rfl (.inr (.inl (blk_look (sc := defScope st_all_resting) rfl (by decide +kernel)))))))) (fun _ _ _ _ _ => d_name (pe_var (i := 6) rfl (.inl rfl)))) (ss_cons (s_expr (x_extend (pe_var (i := 2) rfl (.inr (.inl s_all_resting_resting))) (d_name (pe_var (i := 5) rfl (.inl s_all_resting_more))))) (ss_one (s_expr (x_extend (pe_var (i := 3) rfl (.inl s_all_resting_asked)) (d_name (pe_var (i := 5) rfl (.inl s_all_resting_more)))))))))) (ss_one (s_ret (o_take (pe_var (i := 2) rfl (.inr (.inl s_all_resting_resting))))))))
theorem ok_rests_on {f : Addr} {fd : FuncData} (Z : Zs K mg f_all_standing d_all_standing f_readers_of d_readers_of f_all_resting d_all_resting f_rests_on d_rests_on f_all_known d_all_known f_is_turned d_is_turned f_shaken d_shaken f_source d_source f_draw d_draw f_some d_some f_pact d_pact f_folk d_folk f_titles d_titles f_slips d_slips f_votes d_votes f_case d_case f_cases d_cases f_find d_find f_stands d_stands f_own_is_turned d_own_is_turned f_rests d_rests f_own_shaken d_own_shaken f_rumour d_rumour f_made d_made f_long d_long T_shaken_news V_VERDICTS U_VERDICTS) (F0 : Fun K "rests_on" "rests_on" st_rests_on f fd) (F_all_resting : FnG P w K mg base (L2.CX P w) 2 f_all_resting d_all_resting ["matters", "names"] (spI K w mg XR 2 Lw.fn_all_resting)) : FnG P w K mg base (L2.CX P w) 3 f fd ["matters", "name"] (spI K w mg XR 2 Lw.fn_rests_on) := by
  refine okI (N := ["matters", "name"]) (ps := ["matters", "name"]) (k := 2) (body := Lw.m_rests_on) [false, false] F0 sc_rests_on rfl (by decide) fun cdv A outer s H E hg hr => ?_
  have hu := hr.units
  have hu1 := hr.units1
  have tk : Takes (cxOf (L2.CX P w) P w K mg base ["matters", "name"] "rests_on" (defScope st_rests_on) f cdv A outer s H E) (fun cls d _ H' => E cls d H') := takes_of rfl rfl rfl rfl
  exact ss_one (s_ret (o_callTy co_tuple s_rests_on_tuple Z.n_tuple b_tuple (l_cons (a_of_d (d_of_o (o_call (co_sorted hu) s_rests_on_sorted Z.n_sorted b_sorted (l_cons (a_of_d (d_of_o (o_fn F_all_resting hg (hr.mono (by decide)) s_rests_on_all_resting Z.g_all_resting Z.k_all_resting Z.b_all_resting tk (l_cons (a_of_d (d_name (pe_var (i := 0) rfl (.inl s_rests_on_matters)))) (l_cons (a_of_d (d_of_o (o_lst (l_cons (a_of_d (d_name (pe_var (i := 1) rfl (.inl s_rests_on_name)))) (l_nil))))) (l_nil))) rfl (ll_cons (ll_cons (ll_nil)))))) (l_nil))))) (l_nil))))
theorem ok_all_known {f : Addr} {fd : FuncData} (Z : Zs K mg f_all_standing d_all_standing f_readers_of d_readers_of f_all_resting d_all_resting f_rests_on d_rests_on f_all_known d_all_known f_is_turned d_is_turned f_shaken d_shaken f_source d_source f_draw d_draw f_some d_some f_pact d_pact f_folk d_folk f_titles d_titles f_slips d_slips f_votes d_votes f_case d_case f_cases d_cases f_find d_find f_stands d_stands f_own_is_turned d_own_is_turned f_rests d_rests f_own_shaken d_own_shaken f_rumour d_rumour f_made d_made f_long d_long T_shaken_news V_VERDICTS U_VERDICTS) (F0 : Fun K "all_known" "all_known" st_all_known f fd) (F_all_standing : FnG P w K mg base (L2.CX P w) 1 f_all_standing d_all_standing ["matters"] (spI K w mg XR 1 Lw.fn_all_standing)) : FnG P w K mg base (L2.CX P w) 2 f fd ["matters", "news"] (spI K w mg XR 2 Lw.fn_all_known) := by
  refine okI (N := ["matters", "news", "known", "stands", "matter", "name", "_", "verdict"]) (ps := ["matters", "news"]) (k := 1) (body := Lw.m_all_known) [false, false] F0 sc_all_known rfl (by decide) fun cdv A outer s H E hg hr => ?_
  have hu := hr.units
  have hu1 := hr.units1
  have tk : Takes (cxOf (L2.CX P w) P w K mg base ["matters", "news", "known", "stands", "matter", "name", "_", "verdict"] "all_known" (defScope st_all_known) f cdv A outer s H E) (fun cls d _ H' => E cls d H') := takes_of rfl rfl rfl rfl
  exact ss_cons (s_setDC (i := 2) (hy := rfl) (hyl := s_all_known_known) (hsw := sw_trueD rfl s_all_known_known rfl rfl) (n := 8) (names := [("name", 5), ("_", 6), ("verdict", 7)]) (u9 hu) rfl sc_all_known.nd (i_seq (d_name (pe_var (i := 1) rfl (.inl s_all_known_news)))) (blkOk_by (N := ["matters", "news", "known", "stands", "matter", "name", "_", "verdict"]) (sc := defScope st_all_known) (own := [("name", 5), ("_", 6), ("verdict", 7)]) (by decide +kernel)) (fun _ _ _ _ _ => pg_tup (n := 3) rfl (pgs_cons (pg_name (i := 5) sc_all_known.nd rfl (.inl rfl)) (pgs_cons (pg_name (i := 6) sc_all_known.nd rfl (.inl rfl)) (pgs_cons (pg_name (i := 7) sc_all_known.nd rfl (.inl rfl)) (pgs_nil))))) (g_tup (.cons (g_name) (.cons (g_name) (.cons (g_name) (.nil))))) (fun _ _ _ _ _ => c_none) (fun _ _ _ _ _ => d_name (pe_var (i := 5) rfl (.inl rfl))) (fun _ _ _ _ _ => d_name (pe_var (i := 7) rfl (.inl rfl)))) (ss_cons (s_set (i := 3) sc_all_known.nd rfl (.inl s_all_known_stands) (o_fn F_all_standing hg (hr.mono (by decide)) s_all_known_all_standing Z.g_all_standing Z.k_all_standing Z.b_all_standing tk (l_cons (a_of_d (d_name (pe_var (i := 0) rfl (.inl s_all_known_matters)))) (l_nil)) rfl (ll_cons (ll_nil)))) (ss_cons (s_for (n := 8) (passes_of rfl) rfl (i_seq (d_name (pe_var (i := 0) rfl (.inl s_all_known_matters)))) (pg_name (i := 4) sc_all_known.nd rfl (.inl s_all_known_matter)) (g_name) (ss_one (s_kput (u9 hu) (pe_var (i := 2) rfl (.inl s_all_known_known)) (d_ix (a_name (pe_var (i := 4) rfl (.inl s_all_known_matter))) (a_of_d (d_int)) (fun _ _ => rfl)) (d_kgetN (u9 hu) (pe_var (i := 3) rfl (.inl s_all_known_stands)) (d_ix (a_name (pe_var (i := 4) rfl (.inl s_all_known_matter))) (a_of_d (d_int)) (fun _ _ => rfl)))))) (ss_one (s_ret (o_take (pe_var (i := 2) rfl (.inl s_all_known_known)))))))
theorem ok_is_turned {f : Addr} {fd : FuncData} (Z : Zs K mg f_all_standing d_all_standing f_readers_of d_readers_of f_all_resting d_all_resting f_rests_on d_rests_on f_all_known d_all_known f_is_turned d_is_turned f_shaken d_shaken f_source d_source f_draw d_draw f_some d_some f_pact d_pact f_folk d_folk f_titles d_titles f_slips d_slips f_votes d_votes f_case d_case f_cases d_cases f_find d_find f_stands d_stands f_own_is_turned d_own_is_turned f_rests d_rests f_own_shaken d_own_shaken f_rumour d_rumour f_made d_made f_long d_long T_shaken_news V_VERDICTS U_VERDICTS) (F0 : Fun K "is_turned" "is_turned" st_is_turned f fd)  : FnG P w K mg base (L2.CX P w) 1 f fd ["note", "known"] (spI K w mg XR 2 Lw.fn_is_turned) := by
  refine okI (N := ["note", "known", "name", "_", "verdict"]) (ps := ["note", "known"]) (k := 0) (body := Lw.m_is_turned) [false, false] F0 sc_is_turned rfl (by decide) fun cdv A outer s H E hg hr => ?_
  have hu := hr.units
  have hu1 := hr.units1
  have tk : Takes (cxOf (L2.CX P w) P w K mg base ["note", "known", "name", "_", "verdict"] "is_turned" (defScope st_is_turned) f cdv A outer s H E) (fun cls d _ H' => E cls d H') := takes_of rfl rfl rfl rfl
  exact ss_cons (s_un (n := 5) (d_name (pe_var (i := 0) rfl (.inl s_is_turned_note))) (pg_tup (n := 3) rfl (pgs_cons (pg_name (i := 2) sc_is_turned.nd rfl (.inl s_is_turned_name)) (pgs_cons (pg_name (i := 3) sc_is_turned.nd rfl (.inl s_is_turned__)) (pgs_cons (pg_name (i := 4) sc_is_turned.nd rfl (.inl s_is_turned_verdict)) (pgs_nil))))) (g_tup (.cons (g_name) (.cons (g_name) (.cons (g_name) (.nil)))))) (ss_one (s_ret (o_of_d (d_cmp (od_notIn hu) (a_of_d (d_kgetN (u9 hu) (pe_var (i := 1) rfl (.inl s_is_turned_known)) (d_name (pe_var (i := 2) rfl (.inl s_is_turned_name))))) (a_of_d (d_tup (l_cons (a_of_d (d_none)) (l_cons (a_of_d (d_name (pe_var (i := 4) rfl (.inl s_is_turned_verdict)))) (l_nil)))))))))
theorem ok_shaken {f : Addr} {fd : FuncData} (Z : Zs K mg f_all_standing d_all_standing f_readers_of d_readers_of f_all_resting d_all_resting f_rests_on d_rests_on f_all_known d_all_known f_is_turned d_is_turned f_shaken d_shaken f_source d_source f_draw d_draw f_some d_some f_pact d_pact f_folk d_folk f_titles d_titles f_slips d_slips f_votes d_votes f_case d_case f_cases d_cases f_find d_find f_stands d_stands f_own_is_turned d_own_is_turned f_rests d_rests f_own_shaken d_own_shaken f_rumour d_rumour f_made d_made f_long d_long T_shaken_news V_VERDICTS U_VERDICTS) (F0 : Fun K "shaken" "shaken" st_shaken f fd) (F_all_known : FnG P w K mg base (L2.CX P w) 2 f_all_known d_all_known ["matters", "news"] (spI K w mg XR 2 Lw.fn_all_known)) (F_is_turned : FnG P w K mg base (L2.CX P w) 1 f_is_turned d_is_turned ["note", "known"] (spI K w mg XR 2 Lw.fn_is_turned)) (F_all_resting : FnG P w K mg base (L2.CX P w) 2 f_all_resting d_all_resting ["matters", "names"] (spI K w mg XR 2 Lw.fn_all_resting)) : FnG P w K mg base (L2.CX P w) 3 f fd ["matters", "news"] (spI K w mg XR 2 Lw.fn_shaken) := by
  refine okI (N := ["matters", "news", "known", "turned", "matter", "note"]) (ps := ["matters", "news"]) (k := 2) (body := Lw.m_shaken) [false, false] F0 sc_shaken rfl (by decide) fun cdv A outer s H E hg hr => ?_
  have hu := hr.units
  have hu1 := hr.units1
  have tk : Takes (cxOf (L2.CX P w) P w K mg base ["matters", "news", "known", "turned", "matter", "note"] "shaken" (defScope st_shaken) f cdv A outer s H E) (fun cls d _ H' => E cls d H') := takes_of rfl rfl rfl rfl
  exact ss_cons (s_set (i := 2) sc_shaken.nd rfl (.inr s_shaken_known) (o_fn F_all_known hg (hr.mono (by decide)) s_shaken_all_known Z.g_all_known Z.k_all_known Z.b_all_known tk (l_cons (a_of_d (d_name (pe_var (i := 0) rfl (.inl s_shaken_matters)))) (l_cons (a_of_d (d_name (pe_var (i := 1) rfl (.inl s_shaken_news)))) (l_nil))) rfl (ll_cons (ll_cons (ll_nil))))) (ss_cons (s_setC (n := 6) (own := [("matter", 4)]) (i := 3) rfl sc_shaken.nd rfl s_shaken_turned (sw_true rfl s_shaken_turned rfl rfl) (i_seq (d_name (pe_var (i := 0) rfl (.inl s_shaken_matters)))) (blkOk_by (N := ["matters", "news", "known", "turned", "matter", "note"]) (sc := defScope st_shaken) (own := [("matter", 4)]) (by decide +kernel)) (fun _ _ _ _ _ => pg_name (i := 4) sc_shaken.nd rfl (.inl rfl)) (g_name) (fun _ _ _ _ _ => c_one (t_tru (d_of_o (o_call (co_any rfl) (blk_gl (sc := defScope st_shaken) rfl rfl (by decide +kernel)) Z.n_any b_any (l_cons (a_of_d (d_of_o (o_comp (n := 6) (own := [("note", 5)]) rfl sc_shaken.nd (i_seq (d_ix (a_name (pe_var (i := 4) rfl (.inl rfl))) (a_of_d (d_int)) (fun _ _ => rfl))) (blkOk2 (N := ["matters", "news", "known", "turned", "matter", "note"]) (sc := defScope st_shaken) (own := [("note", 5)]) rfl (by decide +kernel)) (fun _ _ _ _ _ => pg_name (i := 5) sc_shaken.nd rfl (.inl rfl)) (g_name) (fun _ _ _ _ _ => c_none) (fun _ _ _ _ _ => d_of_o (o_fn F_is_turned hg (hr.mono (by decide)) (blk_gl2 (sc := defScope st_shaken) rfl rfl (by decide +kernel)) Z.g_is_turned Z.k_is_turned Z.b_is_turned takes0 (l_cons (a_of_d (d_name (pe_var (i := 5) rfl (.inl rfl)))) (l_cons (a_kfrz (pe_var (i := 2) rfl (.inr (.inl (blk_look2 (sc := defScope st_shaken) rfl (by decide +kernel)))))) (l_nil))) rfl (ll_cons (ll_cons (ll_nil)))))))) (l_nil)))))) (fun _ _ _ _ _ => d_ix (a_name (pe_var (i := 4) rfl (.inl rfl))) (a_of_d (d_int)) (fun _ _ => rfl))) (ss_one (s_ret (o_callTy co_tuple s_shaken_tuple Z.n_tuple b_tuple (l_cons (a_of_d (d_of_o (o_sset rfl hu s_shaken_sorted Z.n_sorted s_shaken_set Z.n_set (l_cons (a_of_d (d_of_o (o_op ao_add (a_name (pe_var (i := 3) rfl (.inl s_shaken_turned))) (a_of_d (d_of_o (o_fn F_all_resting hg (hr.mono (by decide)) s_shaken_all_resting Z.g_all_resting Z.k_all_resting Z.b_all_resting tk (l_cons (a_of_d (d_name (pe_var (i := 0) rfl (.inl s_shaken_matters)))) (l_cons (a_of_d (d_name (pe_var (i := 3) rfl (.inl s_shaken_turned)))) (l_nil))) rfl (ll_cons (ll_cons (ll_nil))))))))) (l_nil))))) (l_nil))))))
theorem ok_source {f : Addr} {fd : FuncData} (Z : Zs K mg f_all_standing d_all_standing f_readers_of d_readers_of f_all_resting d_all_resting f_rests_on d_rests_on f_all_known d_all_known f_is_turned d_is_turned f_shaken d_shaken f_source d_source f_draw d_draw f_some d_some f_pact d_pact f_folk d_folk f_titles d_titles f_slips d_slips f_votes d_votes f_case d_case f_cases d_cases f_find d_find f_stands d_stands f_own_is_turned d_own_is_turned f_rests d_rests f_own_shaken d_own_shaken f_rumour d_rumour f_made d_made f_long d_long T_shaken_news V_VERDICTS U_VERDICTS) (F0 : Fun K "_law_source" "_law_source" st_source f fd)  : FnG P w K mg base (L2.CX P w) 1 f fd ["script"] (spI K w mg XR 1 Lw.fn_source) := by
  refine okI (N := ["script"]) (ps := ["script"]) (k := 0) (body := Lw.m_source) [false] F0 sc_source rfl (by decide) fun cdv A outer s H E hg hr => ?_
  have hu := hr.units
  have hu1 := hr.units1
  have tk : Takes (cxOf (L2.CX P w) P w K mg base ["script"] "_law_source" (defScope st_source) f cdv A outer s H E) (fun cls d _ H' => E cls d H') := takes_of rfl rfl rfl rfl
  exact ss_one (s_ret (o_lst (l_cons (a_of_d (d_of_o (o_scr (pe_var (i := 0) rfl (.inl s_source_script)) (pt_none) (pt_some (d_int))))) (l_cons (a_of_d (d_int)) (l_cons (a_of_d (d_int)) (l_cons (a_of_d (d_int)) (l_nil)))))))
theorem ok_draw {f : Addr} {fd : FuncData} (Z : Zs K mg f_all_standing d_all_standing f_readers_of d_readers_of f_all_resting d_all_resting f_rests_on d_rests_on f_all_known d_all_known f_is_turned d_is_turned f_shaken d_shaken f_source d_source f_draw d_draw f_some d_some f_pact d_pact f_folk d_folk f_titles d_titles f_slips d_slips f_votes d_votes f_case d_case f_cases d_cases f_find d_find f_stands d_stands f_own_is_turned d_own_is_turned f_rests d_rests f_own_shaken d_own_shaken f_rumour d_rumour f_made d_made f_long d_long T_shaken_news V_VERDICTS U_VERDICTS) (F0 : Fun K "_law_draw" "_law_draw" st_draw f fd)  : FnG P w K mg base (L2.CX P w) 1 f fd ["feed", "choices"] (spI K w mg XR 2 Lw.fn_draw_2) := by
  refine okI (N := ["feed", "choices", "found", "cell", "mixed"]) (ps := ["feed", "choices"]) (k := 0) (body := Lw.m_draw_2) [true, false] F0 sc_draw rfl (by decide) fun cdv A outer s H E hg hr => ?_
  have hu := hr.units
  have hu1 := hr.units1
  have tk : Takes (cxOf (L2.CX P w) P w K mg base ["feed", "choices", "found", "cell", "mixed"] "_law_draw" (defScope st_draw) f cdv A outer s H E) (fun cls d _ H' => E cls d H') := takes_of rfl rfl rfl rfl
  exact ss_cons (s_putL (pe_var (i := 0) rfl (.inl s_draw_feed)) (d_int) (d_of_o (o_op ao_add (a_of_d (d_ix (a_name (pe_var (i := 0) rfl (.inl s_draw_feed))) (a_of_d (d_int)) (fun _ _ => rfl))) (a_of_d (d_int))))) (ss_cons (s_if (t_cmp (od_gt hu) (a_of_d (d_ix (a_name (pe_var (i := 0) rfl (.inl s_draw_feed))) (a_of_d (d_int)) (fun _ _ => rfl))) (a_of_d (d_int))) (ss_cons (s_set (i := 2) sc_draw.nd rfl (.inl s_draw_found) (o_of_d (d_op od_mod (a_of_d (d_ix (a_name (pe_var (i := 0) rfl (.inl s_draw_feed))) (a_of_d (d_int)) (fun _ _ => rfl))) (a_name (pe_var (i := 1) rfl (.inl s_draw_choices)))))) (ss_cons (s_putL (pe_var (i := 0) rfl (.inl s_draw_feed)) (d_int) (d_op od_floorW (a_of_d (d_ix (a_name (pe_var (i := 0) rfl (.inl s_draw_feed))) (a_of_d (d_int)) (fun _ _ => rfl))) (a_name (pe_var (i := 1) rfl (.inl s_draw_choices))))) (ss_one (s_ret (o_take (pe_var (i := 2) rfl (.inl s_draw_found))))))) (ss_nil)) (ss_cons (s_set (i := 3) sc_draw.nd rfl (.inl s_draw_cell) (o_if (t_cmp (od_ne hu) (a_of_d (d_ix (a_name (pe_var (i := 0) rfl (.inl s_draw_feed))) (a_of_d (d_int)) (fun _ _ => rfl))) (a_of_d (d_of_o (o_lst (l_nil))))) (o_of_d (d_ix (a_of_d (d_ix (a_name (pe_var (i := 0) rfl (.inl s_draw_feed))) (a_of_d (d_int)) (fun _ _ => rfl))) (a_of_d (d_op od_mod (a_of_d (d_ix (a_name (pe_var (i := 0) rfl (.inl s_draw_feed))) (a_of_d (d_int)) (fun _ _ => rfl))) (a_of_d (d_of_o (o_call co_len s_draw_len Z.n_len b_len (l_cons (a_of_d (d_ix (a_name (pe_var (i := 0) rfl (.inl s_draw_feed))) (a_of_d (d_int)) (fun _ _ => rfl))) (l_nil))))))) (fun _ _ => rfl))) (o_of_d (d_int)))) (ss_cons (s_putL (pe_var (i := 0) rfl (.inl s_draw_feed)) (d_int) (d_of_o (o_op ao_add (a_of_d (d_ix (a_name (pe_var (i := 0) rfl (.inl s_draw_feed))) (a_of_d (d_int)) (fun _ _ => rfl))) (a_of_d (d_int))))) (ss_cons (s_if (t_w (w_and (t_cmp (od_ge hu) (a_name (pe_var (i := 3) rfl (.inl s_draw_cell))) (a_of_d (d_op od_pow (a_of_d (d_int)) (a_of_d (d_int))))) (w_one1 (t_cmp (od_le hu) (a_of_d (d_ix (a_name (pe_var (i := 0) rfl (.inl s_draw_feed))) (a_of_d (d_int)) (fun _ _ => rfl))) (a_of_d (d_of_o (o_call co_len s_draw_len Z.n_len b_len (l_cons (a_of_d (d_ix (a_name (pe_var (i := 0) rfl (.inl s_draw_feed))) (a_of_d (d_int)) (fun _ _ => rfl))) (l_nil))))))))) (ss_cons (s_putL (pe_var (i := 0) rfl (.inl s_draw_feed)) (d_int) (d_op od_floorW (a_name (pe_var (i := 3) rfl (.inl s_draw_cell))) (a_name (pe_var (i := 1) rfl (.inl s_draw_choices))))) (ss_one (s_ret (o_of_d (d_op od_mod (a_name (pe_var (i := 3) rfl (.inl s_draw_cell))) (a_name (pe_var (i := 1) rfl (.inl s_draw_choices)))))))) (ss_nil)) (ss_cons (s_set (i := 4) sc_draw.nd rfl (.inl s_draw_mixed) (o_of_d (d_op od_mod (a_of_d (d_op od_pow (a_of_d (d_of_o (o_op ao_add (a_of_d (d_of_o (o_op ao_add (a_of_d (d_op od_mod (a_name (pe_var (i := 3) rfl (.inl s_draw_cell))) (a_of_d (d_int)))) (a_of_d (d_of_o (o_op ao_mulT (a_of_d (d_int)) (a_of_d (d_ix (a_name (pe_var (i := 0) rfl (.inl s_draw_feed))) (a_of_d (d_int)) (fun _ _ => rfl))))))))) (a_of_d (d_int))))) (a_of_d (d_int)))) (a_of_d (d_int))))) (ss_one (s_ret (o_of_d (d_op od_mod (a_of_d (d_op od_floorW (a_of_d (d_op od_mod (a_of_d (d_op od_pow (a_of_d (d_of_o (o_op ao_add (a_name (pe_var (i := 4) rfl (.inl s_draw_mixed))) (a_of_d (d_of_o (o_op ao_mulT (a_of_d (d_int)) (a_of_d (d_ix (a_name (pe_var (i := 0) rfl (.inl s_draw_feed))) (a_of_d (d_int)) (fun _ _ => rfl))))))))) (a_of_d (d_int)))) (a_of_d (d_int)))) (a_of_d (d_int)))) (a_name (pe_var (i := 1) rfl (.inl s_draw_choices))))))))))))
theorem ok_some {f : Addr} {fd : FuncData} (Z : Zs K mg f_all_standing d_all_standing f_readers_of d_readers_of f_all_resting d_all_resting f_rests_on d_rests_on f_all_known d_all_known f_is_turned d_is_turned f_shaken d_shaken f_source d_source f_draw d_draw f_some d_some f_pact d_pact f_folk d_folk f_titles d_titles f_slips d_slips f_votes d_votes f_case d_case f_cases d_cases f_find d_find f_stands d_stands f_own_is_turned d_own_is_turned f_rests d_rests f_own_shaken d_own_shaken f_rumour d_rumour f_made d_made f_long d_long T_shaken_news V_VERDICTS U_VERDICTS) (F0 : Fun K "_law_some" "_law_some" st_some f fd) (F_draw : FnG P w K mg base (L2.CX P w) 1 f_draw d_draw ["feed", "choices"] (spI K w mg XR 2 Lw.fn_draw_2)) : FnG P w K mg base (L2.CX P w) 2 f fd ["feed", "folk", "size"] (spI K w mg XR 3 Lw.fn_some) := by
  refine okI (N := ["feed", "folk", "size", "rest", "found", "k"]) (ps := ["feed", "folk", "size"]) (k := 1) (body := Lw.m_some) [true, false, false] F0 sc_some rfl (by decide) fun cdv A outer s H E hg hr => ?_
  have hu := hr.units
  have hu1 := hr.units1
  have tk : Takes (cxOf (L2.CX P w) P w K mg base ["feed", "folk", "size", "rest", "found", "k"] "_law_some" (defScope st_some) f cdv A outer s H E) (fun cls d _ H' => E cls d H') := takes_of rfl rfl rfl rfl
  exact ss_cons (s_par rfl sc_some.nd rfl rfl s_some_rest s_some_found (o_callTy co_list s_some_list Z.n_list b_list (l_cons (a_name (pe_var (i := 1) rfl (.inl s_some_folk))) (l_nil))) (o_lst (l_nil))) (ss_cons (s_for (n := 6) (passes_of rfl) rfl (i_range1 s_some_range Z.n_range (l_cons (a_of_d (d_of_o (o_call (co_min rfl hu) s_some_min Z.n_min b_min (l_cons (a_name (pe_var (i := 2) rfl (.inl s_some_size))) (l_cons (a_of_d (d_of_o (o_call co_len s_some_len Z.n_len b_len (l_cons (a_name (pe_var (i := 3) rfl (.inl s_some_rest))) (l_nil))))) (l_nil)))))) (l_nil))) (pg_name (i := 5) sc_some.nd rfl (.inl s_some_k)) (g_name) (ss_one (s_expr (x_append (pe_var (i := 4) rfl (.inl s_some_found)) (x_popAt (pe_var (i := 3) rfl (.inl s_some_rest)) (d_of_o (o_fnO F_draw hg (hr.mono (by decide)) s_some__law_draw Z.g_draw Z.k_draw Z.b_draw tk (l_cons (a_name (pe_var (i := 0) rfl (.inl s_some_feed))) (l_cons (a_of_d (d_of_o (o_call co_len s_some_len Z.n_len b_len (l_cons (a_name (pe_var (i := 3) rfl (.inl s_some_rest))) (l_nil))))) (l_nil))) rfl (ll_cons (ll_cons (ll_nil)))))))))) (ss_one (s_ret (o_callTy co_tuple s_some_tuple Z.n_tuple b_tuple (l_cons (a_of_d (d_of_o (o_call (co_sorted hu) s_some_sorted Z.n_sorted b_sorted (l_cons (a_name (pe_var (i := 4) rfl (.inl s_some_found))) (l_nil))))) (l_nil))))))
theorem ok_pact {f : Addr} {fd : FuncData} (Z : Zs K mg f_all_standing d_all_standing f_readers_of d_readers_of f_all_resting d_all_resting f_rests_on d_rests_on f_all_known d_all_known f_is_turned d_is_turned f_shaken d_shaken f_source d_source f_draw d_draw f_some d_some f_pact d_pact f_folk d_folk f_titles d_titles f_slips d_slips f_votes d_votes f_case d_case f_cases d_cases f_find d_find f_stands d_stands f_own_is_turned d_own_is_turned f_rests d_rests f_own_shaken d_own_shaken f_rumour d_rumour f_made d_made f_long d_long T_shaken_news V_VERDICTS U_VERDICTS) (F0 : Fun K "_law_pact" "_law_pact" st_pact f fd) (F_draw : FnG P w K mg base (L2.CX P w) 1 f_draw d_draw ["feed", "choices"] (spI K w mg XR 2 Lw.fn_draw_2)) : FnG P w K mg base (L2.CX P w) 2 f fd ["feed"] (spI K w mg XR 1 Lw.fn_pact) := by
  refine okI (N := ["feed", "seats", "enough"]) (ps := ["feed"]) (k := 1) (body := Lw.m_pact) [true] F0 sc_pact rfl (by decide) fun cdv A outer s H E hg hr => ?_
  have hu := hr.units
  have hu1 := hr.units1
  have tk : Takes (cxOf (L2.CX P w) P w K mg base ["feed", "seats", "enough"] "_law_pact" (defScope st_pact) f cdv A outer s H E) (fun cls d _ H' => E cls d H') := takes_of rfl rfl rfl rfl
  exact ss_cons (s_set (i := 1) sc_pact.nd rfl (.inl s_pact_seats) (o_op ao_add (a_of_d (d_int)) (a_of_d (d_of_o (o_fnO F_draw hg (hr.mono (by decide)) s_pact__law_draw Z.g_draw Z.k_draw Z.b_draw tk (l_cons (a_name (pe_var (i := 0) rfl (.inl s_pact_feed))) (l_cons (a_of_d (d_int)) (l_nil))) rfl (ll_cons (ll_cons (ll_nil)))))))) (ss_cons (s_set (i := 2) sc_pact.nd rfl (.inl s_pact_enough) (o_op ao_add (a_of_d (d_of_o (o_op ao_add (a_of_d (d_op od_floorW (a_name (pe_var (i := 1) rfl (.inl s_pact_seats))) (a_of_d (d_int)))) (a_of_d (d_int))))) (a_of_d (d_of_o (o_fnO F_draw hg (hr.mono (by decide)) s_pact__law_draw Z.g_draw Z.k_draw Z.b_draw tk (l_cons (a_name (pe_var (i := 0) rfl (.inl s_pact_feed))) (l_cons (a_of_d (d_op od_sub (a_name (pe_var (i := 1) rfl (.inl s_pact_seats))) (a_of_d (d_op od_floorW (a_name (pe_var (i := 1) rfl (.inl s_pact_seats))) (a_of_d (d_int)))))) (l_nil))) rfl (ll_cons (ll_cons (ll_nil)))))))) (ss_one (s_ret (o_of_d (d_tup (l_cons (a_of_d (d_tup (l_cons (a_of_d (d_str)) (l_cons (a_of_d (d_str)) (l_nil))))) (l_cons (a_of_d (d_name (pe_var (i := 1) rfl (.inl s_pact_seats)))) (l_cons (a_of_d (d_name (pe_var (i := 2) rfl (.inl s_pact_enough)))) (l_cons (a_of_d (d_of_o (o_op ao_add (a_of_d (d_int)) (a_of_d (d_of_o (o_fnO F_draw hg (hr.mono (by decide)) s_pact__law_draw Z.g_draw Z.k_draw Z.b_draw tk (l_cons (a_name (pe_var (i := 0) rfl (.inl s_pact_feed))) (l_cons (a_of_d (d_int)) (l_nil))) rfl (ll_cons (ll_cons (ll_nil))))))))) (l_nil))))))))))
theorem ok_folk {f : Addr} {fd : FuncData} (Z : Zs K mg f_all_standing d_all_standing f_readers_of d_readers_of f_all_resting d_all_resting f_rests_on d_rests_on f_all_known d_all_known f_is_turned d_is_turned f_shaken d_shaken f_source d_source f_draw d_draw f_some d_some f_pact d_pact f_folk d_folk f_titles d_titles f_slips d_slips f_votes d_votes f_case d_case f_cases d_cases f_find d_find f_stands d_stands f_own_is_turned d_own_is_turned f_rests d_rests f_own_shaken d_own_shaken f_rumour d_rumour f_made d_made f_long d_long T_shaken_news V_VERDICTS U_VERDICTS) (F0 : Fun K "_law_folk" "_law_folk" st_folk f fd)  : FnG P w K mg base (L2.CX P w) 1 f fd [] (spI K w mg XR 0 Lw.fn_folk_2) := by
  refine okI (N := []) (ps := []) (k := 0) (body := Lw.m_folk_2) [] F0 sc_folk rfl (by decide) fun cdv A outer s H E hg hr => ?_
  have hu := hr.units
  have hu1 := hr.units1
  have tk : Takes (cxOf (L2.CX P w) P w K mg base [] "_law_folk" (defScope st_folk) f cdv A outer s H E) (fun cls d _ H' => E cls d H') := takes_of rfl rfl rfl rfl
  exact ss_one (s_ret (o_lst (l_cons (a_of_d (d_tup (l_cons (a_of_d (d_str)) (l_cons (a_of_d (d_str)) (l_nil))))) (l_cons (a_of_d (d_tup (l_cons (a_of_d (d_str)) (l_cons (a_of_d (d_str)) (l_nil))))) (l_cons (a_of_d (d_tup (l_cons (a_of_d (d_str)) (l_cons (a_of_d (d_str)) (l_nil))))) (l_cons (a_of_d (d_tup (l_cons (a_of_d (d_str)) (l_cons (a_of_d (d_str)) (l_nil))))) (l_cons (a_of_d (d_tup (l_cons (a_of_d (d_str)) (l_cons (a_of_d (d_str)) (l_nil))))) (l_cons (a_of_d (d_tup (l_cons (a_of_d (d_str)) (l_cons (a_of_d (d_str)) (l_nil))))) (l_nil)))))))))
theorem ok_titles {f : Addr} {fd : FuncData} (Z : Zs K mg f_all_standing d_all_standing f_readers_of d_readers_of f_all_resting d_all_resting f_rests_on d_rests_on f_all_known d_all_known f_is_turned d_is_turned f_shaken d_shaken f_source d_source f_draw d_draw f_some d_some f_pact d_pact f_folk d_folk f_titles d_titles f_slips d_slips f_votes d_votes f_case d_case f_cases d_cases f_find d_find f_stands d_stands f_own_is_turned d_own_is_turned f_rests d_rests f_own_shaken d_own_shaken f_rumour d_rumour f_made d_made f_long d_long T_shaken_news V_VERDICTS U_VERDICTS) (F0 : Fun K "_law_titles" "_law_titles" st_titles f fd) (F_draw : FnG P w K mg base (L2.CX P w) 1 f_draw d_draw ["feed", "choices"] (spI K w mg XR 2 Lw.fn_draw_2)) : FnG P w K mg base (L2.CX P w) 2 f fd ["feed"] (spI K w mg XR 1 Lw.fn_titles_2) := by
  refine okI (N := ["feed", "found", "town", "rise", "number", "k"]) (ps := ["feed"]) (k := 1) (body := Lw.m_titles_2) [true] F0 sc_titles rfl (by decide) fun cdv A outer s H E hg hr => ?_
  have hu := hr.units
  have hu1 := hr.units1
  have tk : Takes (cxOf (L2.CX P w) P w K mg base ["feed", "found", "town", "rise", "number", "k"] "_law_titles" (defScope st_titles) f cdv A outer s H E) (fun cls d _ H' => E cls d H') := takes_of rfl rfl rfl rfl
  exact ss_cons (s_set (i := 1) sc_titles.nd rfl (.inl s_titles_found) (o_lst (l_nil))) (ss_cons (s_for (n := 6) (passes_of rfl) rfl (i_seq (d_tup (l_cons (a_of_d (d_str)) (l_cons (a_of_d (d_str)) (l_nil))))) (pg_name (i := 2) sc_titles.nd rfl (.inl s_titles_town)) (g_name) (ss_cons (s_un (n := 6) (d_tup (l_cons (a_of_d (d_int)) (l_cons (a_of_d (d_int)) (l_nil)))) (pg_tup (n := 2) rfl (pgs_cons (pg_name (i := 3) sc_titles.nd rfl (.inl s_titles_rise)) (pgs_cons (pg_name (i := 4) sc_titles.nd rfl (.inl s_titles_number)) (pgs_nil)))) (g_tup (.cons (g_name) (.cons (g_name) (.nil))))) (ss_one (s_for (n := 6) (passes_of rfl) rfl (i_range1 s_titles_range Z.n_range (l_cons (a_of_d (d_of_o (o_fnO F_draw hg (hr.mono (by decide)) s_titles__law_draw Z.g_draw Z.k_draw Z.b_draw tk (l_cons (a_name (pe_var (i := 0) rfl (.inl s_titles_feed))) (l_cons (a_of_d (d_int)) (l_nil))) rfl (ll_cons (ll_cons (ll_nil)))))) (l_nil))) (pg_name (i := 5) sc_titles.nd rfl (.inl s_titles_k)) (g_name) (ss_cons (s_if (t_cmp (od_eq hu) (a_of_d (d_of_o (o_fnO F_draw hg (hr.mono (by decide)) s_titles__law_draw Z.g_draw Z.k_draw Z.b_draw tk (l_cons (a_name (pe_var (i := 0) rfl (.inl s_titles_feed))) (l_cons (a_of_d (d_int)) (l_nil))) rfl (ll_cons (ll_cons (ll_nil)))))) (a_of_d (d_int))) (ss_one (s_par rfl sc_titles.nd rfl rfl s_titles_rise s_titles_number (o_op ao_add (a_of_d (d_of_o (o_op ao_add (a_name (pe_var (i := 3) rfl (.inl s_titles_rise))) (a_of_d (d_int))))) (a_of_d (d_of_o (o_fnO F_draw hg (hr.mono (by decide)) s_titles__law_draw Z.g_draw Z.k_draw Z.b_draw tk (l_cons (a_name (pe_var (i := 0) rfl (.inl s_titles_feed))) (l_cons (a_of_d (d_int)) (l_nil))) rfl (ll_cons (ll_cons (ll_nil))))))) (o_of_d (d_int)))) (ss_nil)) (ss_cons (s_expr (x_append (pe_var (i := 1) rfl (.inl s_titles_found)) (d_tup (l_cons (a_of_d (d_name (pe_var (i := 2) rfl (.inl s_titles_town)))) (l_cons (a_of_d (d_name (pe_var (i := 3) rfl (.inl s_titles_rise)))) (l_cons (a_of_d (d_name (pe_var (i := 4) rfl (.inl s_titles_number)))) (l_nil))))))) (ss_one (s_set (i := 4) sc_titles.nd rfl (.inl s_titles_number) (o_op ao_add (a_name (pe_var (i := 4) rfl (.inl s_titles_number))) (a_of_d (d_int))))))))))) (ss_one (s_ret (o_take (pe_var (i := 1) rfl (.inl s_titles_found))))))
theorem ok_slips {f : Addr} {fd : FuncData} (Z : Zs K mg f_all_standing d_all_standing f_readers_of d_readers_of f_all_resting d_all_resting f_rests_on d_rests_on f_all_known d_all_known f_is_turned d_is_turned f_shaken d_shaken f_source d_source f_draw d_draw f_some d_some f_pact d_pact f_folk d_folk f_titles d_titles f_slips d_slips f_votes d_votes f_case d_case f_cases d_cases f_find d_find f_stands d_stands f_own_is_turned d_own_is_turned f_rests d_rests f_own_shaken d_own_shaken f_rumour d_rumour f_made d_made f_long d_long T_shaken_news V_VERDICTS U_VERDICTS) (F0 : Fun K "_law_slips" "_law_slips" st_slips f fd) (F_draw : FnG P w K mg base (L2.CX P w) 1 f_draw d_draw ["feed", "choices"] (spI K w mg XR 2 Lw.fn_draw_2)) (F_some : FnG P w K mg base (L2.CX P w) 2 f_some d_some ["feed", "folk", "size"] (spI K w mg XR 3 Lw.fn_some)) (F_folk : FnG P w K mg base (L2.CX P w) 1 f_folk d_folk [] (spI K w mg XR 0 Lw.fn_folk_2)) : FnG P w K mg base (L2.CX P w) 3 f fd ["feed", "titles", "path"] (spI K w mg XR 3 Lw.fn_slips) := by
  refine okI (N := ["feed", "titles", "path", "pool", "found", "k", "other", "one"]) (ps := ["feed", "titles", "path"]) (k := 2) (body := Lw.m_slips) [true, false, false] F0 sc_slips rfl (by decide) fun cdv A outer s H E hg hr => ?_
  have hu := hr.units
  have hu1 := hr.units1
  have tk : Takes (cxOf (L2.CX P w) P w K mg base ["feed", "titles", "path", "pool", "found", "k", "other", "one"] "_law_slips" (defScope st_slips) f cdv A outer s H E) (fun cls d _ H' => E cls d H') := takes_of rfl rfl rfl rfl
  exact ss_cons (s_par rfl sc_slips.nd rfl rfl s_slips_pool s_slips_found (o_op ao_add (a_of_d (d_of_o (o_comp (n := 8) (own := [("one", 7)]) rfl sc_slips.nd (i_seq (d_name (pe_var (i := 1) rfl (.inl s_slips_titles)))) (blkOk_by (N := ["feed", "titles", "path", "pool", "found", "k", "other", "one"]) (sc := defScope st_slips) (own := [("one", 7)]) (by decide +kernel)) (fun _ _ _ _ _ => pg_name (i := 7) sc_slips.nd rfl (.inl rfl)) (g_name) (fun _ _ _ _ _ => c_one (t_cmp (od_notIn hu) (a_name (pe_var (i := 7) rfl (.inl rfl))) (a_name (pe_var (i := 2) rfl (.inr (.inl (blk_look (sc := defScope st_slips) rfl (by decide +kernel)))))))) (fun _ _ _ _ _ => d_name (pe_var (i := 7) rfl (.inl rfl)))))) (a_of_d (d_of_o (o_lst (l_cons (a_of_d (d_tup (l_cons (a_of_d (d_str)) (l_cons (a_of_d (d_int)) (l_cons (a_of_d (d_int)) (l_nil)))))) (l_cons (a_of_d (d_tup (l_cons (a_of_d (d_str)) (l_cons (a_of_d (d_int)) (l_cons (a_of_d (d_int)) (l_nil)))))) (l_nil))))))) (o_lst (l_nil))) (ss_cons (s_for (n := 8) (passes_of rfl) rfl (i_range1 s_slips_range Z.n_range (l_cons (a_of_d (d_of_o (o_fnO F_draw hg (hr.mono (by decide)) s_slips__law_draw Z.g_draw Z.k_draw Z.b_draw tk (l_cons (a_name (pe_var (i := 0) rfl (.inl s_slips_feed))) (l_cons (a_of_d (d_int)) (l_nil))) rfl (ll_cons (ll_cons (ll_nil)))))) (l_nil))) (pg_name (i := 5) sc_slips.nd rfl (.inl s_slips_k)) (g_name) (ss_cons (s_set (i := 6) sc_slips.nd rfl (.inl s_slips_other) (o_of_d (x_popAt (pe_var (i := 3) rfl (.inl s_slips_pool)) (d_of_o (o_fnO F_draw hg (hr.mono (by decide)) s_slips__law_draw Z.g_draw Z.k_draw Z.b_draw tk (l_cons (a_name (pe_var (i := 0) rfl (.inl s_slips_feed))) (l_cons (a_of_d (d_of_o (o_call co_len s_slips_len Z.n_len b_len (l_cons (a_name (pe_var (i := 3) rfl (.inl s_slips_pool))) (l_nil))))) (l_nil))) rfl (ll_cons (ll_cons (ll_nil)))))))) (ss_one (s_expr (x_append (pe_var (i := 4) rfl (.inl s_slips_found)) (d_tup (l_cons (a_of_d (d_name (pe_var (i := 6) rfl (.inl s_slips_other)))) (l_cons (a_of_d (d_of_o (o_fnO F_some hg (hr.mono (by decide)) s_slips__law_some Z.g_some Z.k_some Z.b_some tk (l_cons (a_name (pe_var (i := 0) rfl (.inl s_slips_feed))) (l_cons (a_of_d (d_of_o (o_fnP0 (n2 := 0) F_folk hg (hr.mono (by decide)) s_slips__law_folk Z.g_folk Z.k_folk Z.p_folk_0_ Z.q_folk_0_ rfl rfl tk (k_nil) (ll_nil)))) (l_cons (a_of_d (d_of_o (o_op ao_add (a_of_d (d_int)) (a_of_d (d_of_o (o_fnO F_draw hg (hr.mono (by decide)) s_slips__law_draw Z.g_draw Z.k_draw Z.b_draw tk (l_cons (a_name (pe_var (i := 0) rfl (.inl s_slips_feed))) (l_cons (a_of_d (d_int)) (l_nil))) rfl (ll_cons (ll_cons (ll_nil))))))))) (l_nil)))) rfl (ll_cons (ll_cons (ll_cons (ll_nil))))))) (l_cons (a_of_d (d_ix (a_of_d (d_of_o (o_lst (l_cons (a_of_d (d_str)) (l_cons (a_of_d (d_str)) (l_nil)))))) (a_of_d (d_of_o (o_fnO F_draw hg (hr.mono (by decide)) s_slips__law_draw Z.g_draw Z.k_draw Z.b_draw tk (l_cons (a_name (pe_var (i := 0) rfl (.inl s_slips_feed))) (l_cons (a_of_d (d_int)) (l_nil))) rfl (ll_cons (ll_cons (ll_nil)))))) (fun _ _ => rfl))) (l_nil)))))))))) (ss_one (s_ret (o_callTy co_tuple s_slips_tuple Z.n_tuple b_tuple (l_cons (a_of_d (d_of_o (o_call (co_sorted hu) s_slips_sorted Z.n_sorted b_sorted (l_cons (a_name (pe_var (i := 4) rfl (.inl s_slips_found))) (l_nil))))) (l_nil))))))
theorem ok_votes {f : Addr} {fd : FuncData} (Z : Zs K mg f_all_standing d_all_standing f_readers_of d_readers_of f_all_resting d_all_resting f_rests_on d_rests_on f_all_known d_all_known f_is_turned d_is_turned f_shaken d_shaken f_source d_source f_draw d_draw f_some d_some f_pact d_pact f_folk d_folk f_titles d_titles f_slips d_slips f_votes d_votes f_case d_case f_cases d_cases f_find d_find f_stands d_stands f_own_is_turned d_own_is_turned f_rests d_rests f_own_shaken d_own_shaken f_rumour d_rumour f_made d_made f_long d_long T_shaken_news V_VERDICTS U_VERDICTS) (F0 : Fun K "_law_votes" "_law_votes" st_votes f fd) (F_draw : FnG P w K mg base (L2.CX P w) 1 f_draw d_draw ["feed", "choices"] (spI K w mg XR 2 Lw.fn_draw_2)) (F_some : FnG P w K mg base (L2.CX P w) 2 f_some d_some ["feed", "folk", "size"] (spI K w mg XR 3 Lw.fn_some)) : FnG P w K mg base (L2.CX P w) 3 f fd ["feed", "pact", "seats"] (spI K w mg XR 3 Lw.fn_votes) := by
  refine okI (N := ["feed", "pact", "seats", "found", "way", "end", "voters", "who"]) (ps := ["feed", "pact", "seats"]) (k := 2) (body := Lw.m_votes) [true, false, false] F0 sc_votes rfl (by decide) fun cdv A outer s H E hg hr => ?_
  have hu := hr.units
  have hu1 := hr.units1
  have tk : Takes (cxOf (L2.CX P w) P w K mg base ["feed", "pact", "seats", "found", "way", "end", "voters", "who"] "_law_votes" (defScope st_votes) f cdv A outer s H E) (fun cls d _ H' => E cls d H') := takes_of rfl rfl rfl rfl
  exact ss_cons (s_par rfl sc_votes.nd rfl rfl s_votes_found s_votes_way (o_lst (l_nil)) (o_fnO F_draw hg (hr.mono (by decide)) s_votes__law_draw Z.g_draw Z.k_draw Z.b_draw tk (l_cons (a_name (pe_var (i := 0) rfl (.inl s_votes_feed))) (l_cons (a_of_d (d_int)) (l_nil))) rfl (ll_cons (ll_cons (ll_nil))))) (ss_cons (s_if (t_w (w_and (t_cmp (od_gt hu) (a_name (pe_var (i := 4) rfl (.inl s_votes_way))) (a_of_d (d_int))) (w_one1 (t_cmp (od_ge hu) (a_of_d (d_of_o (o_call co_len s_votes_len Z.n_len b_len (l_cons (a_name (pe_var (i := 2) rfl (.inl s_votes_seats))) (l_nil))))) (a_of_d (d_ix (a_name (pe_var (i := 1) rfl (.inl s_votes_pact))) (a_of_d (d_int)) (fun _ _ => rfl))))))) (ss_cons (s_set (i := 5) sc_votes.nd rfl (.inl s_votes_end) (o_of_d (d_ix (a_of_d (d_of_o (o_lst (l_cons (a_of_d (d_str)) (l_cons (a_of_d (d_str)) (l_nil)))))) (a_of_d (d_of_o (o_fnO F_draw hg (hr.mono (by decide)) s_votes__law_draw Z.g_draw Z.k_draw Z.b_draw tk (l_cons (a_name (pe_var (i := 0) rfl (.inl s_votes_feed))) (l_cons (a_of_d (d_int)) (l_nil))) rfl (ll_cons (ll_cons (ll_nil)))))) (fun _ _ => rfl)))) (ss_cons (s_set (i := 6) sc_votes.nd rfl (.inl s_votes_voters) (o_fnO F_some hg (hr.mono (by decide)) s_votes__law_some Z.g_some Z.k_some Z.b_some tk (l_cons (a_name (pe_var (i := 0) rfl (.inl s_votes_feed))) (l_cons (a_of_d (d_name (pe_var (i := 2) rfl (.inl s_votes_seats)))) (l_cons (a_of_d (d_ix (a_name (pe_var (i := 1) rfl (.inl s_votes_pact))) (a_of_d (d_int)) (fun _ _ => rfl))) (l_nil)))) rfl (ll_cons (ll_cons (ll_cons (ll_nil)))))) (ss_cons (s_for (n := 8) (passes_of rfl) rfl (i_seq (d_name (pe_var (i := 2) rfl (.inl s_votes_seats)))) (pg_name (i := 7) sc_votes.nd rfl (.inl s_votes_who)) (g_name) (ss_one (s_if (t_cmp (od_in hu) (a_name (pe_var (i := 7) rfl (.inl s_votes_who))) (a_name (pe_var (i := 6) rfl (.inl s_votes_voters)))) (ss_one (s_expr (x_append (pe_var (i := 3) rfl (.inl s_votes_found)) (d_tup (l_cons (a_of_d (d_name (pe_var (i := 7) rfl (.inl s_votes_who)))) (l_cons (a_of_d (d_name (pe_var (i := 5) rfl (.inl s_votes_end)))) (l_nil))))))) (ss_one (s_if (t_cmp (od_eq hu) (a_of_d (d_of_o (o_fnO F_draw hg (hr.mono (by decide)) s_votes__law_draw Z.g_draw Z.k_draw Z.b_draw tk (l_cons (a_name (pe_var (i := 0) rfl (.inl s_votes_feed))) (l_cons (a_of_d (d_int)) (l_nil))) rfl (ll_cons (ll_cons (ll_nil)))))) (a_of_d (d_int))) (ss_one (s_expr (x_append (pe_var (i := 3) rfl (.inl s_votes_found)) (d_tup (l_cons (a_of_d (d_name (pe_var (i := 7) rfl (.inl s_votes_who)))) (l_cons (a_of_d (d_if (t_cmp (od_eq hu) (a_name (pe_var (i := 5) rfl (.inl s_votes_end))) (a_of_d (d_str))) (d_str) (d_str))) (l_nil))))))) (ss_nil)))))) (ss_one (s_ret (o_of_d (d_tup (l_cons (a_of_d (d_of_o (o_callTy co_tuple s_votes_tuple Z.n_tuple b_tuple (l_cons (a_name (pe_var (i := 3) rfl (.inl s_votes_found))) (l_nil))))) (l_cons (a_of_d (d_name (pe_var (i := 5) rfl (.inl s_votes_end)))) (l_nil)))))))))) (ss_nil)) (ss_cons (s_for (n := 8) (passes_of rfl) rfl (i_seq (d_of_o (o_sl (a_name (pe_var (i := 2) rfl (.inl s_votes_seats))) (pt_none) (pt_some (d_op od_sub (a_of_d (d_ix (a_name (pe_var (i := 1) rfl (.inl s_votes_pact))) (a_of_d (d_int)) (fun _ _ => rfl))) (a_of_d (d_int))))))) (pg_name (i := 7) sc_votes.nd rfl (.inl s_votes_who)) (g_name) (ss_one (s_if (t_cmp (od_eq hu) (a_of_d (d_of_o (o_fnO F_draw hg (hr.mono (by decide)) s_votes__law_draw Z.g_draw Z.k_draw Z.b_draw tk (l_cons (a_name (pe_var (i := 0) rfl (.inl s_votes_feed))) (l_cons (a_of_d (d_int)) (l_nil))) rfl (ll_cons (ll_cons (ll_nil)))))) (a_of_d (d_int))) (ss_one (s_expr (x_append (pe_var (i := 3) rfl (.inl s_votes_found)) (d_tup (l_cons (a_of_d (d_name (pe_var (i := 7) rfl (.inl s_votes_who)))) (l_cons (a_of_d (d_ix (a_of_d (d_of_o (o_lst (l_cons (a_of_d (d_str)) (l_cons (a_of_d (d_str)) (l_nil)))))) (a_of_d (d_of_o (o_fnO F_draw hg (hr.mono (by decide)) s_votes__law_draw Z.g_draw Z.k_draw Z.b_draw tk (l_cons (a_name (pe_var (i := 0) rfl (.inl s_votes_feed))) (l_cons (a_of_d (d_int)) (l_nil))) rfl (ll_cons (ll_cons (ll_nil)))))) (fun _ _ => rfl))) (l_nil))))))) (ss_nil)))) (ss_one (s_ret (o_of_d (d_tup (l_cons (a_of_d (d_of_o (o_callTy co_tuple s_votes_tuple Z.n_tuple b_tuple (l_cons (a_name (pe_var (i := 3) rfl (.inl s_votes_found))) (l_nil))))) (l_cons (a_of_d (d_ix (a_of_d (d_of_o (o_lst (l_cons (a_of_d (d_none)) (l_cons (a_of_d (d_none)) (l_cons (a_of_d (d_str)) (l_cons (a_of_d (d_str)) (l_nil)))))))) (a_of_d (d_of_o (o_fnO F_draw hg (hr.mono (by decide)) s_votes__law_draw Z.g_draw Z.k_draw Z.b_draw tk (l_cons (a_name (pe_var (i := 0) rfl (.inl s_votes_feed))) (l_cons (a_of_d (d_int)) (l_nil))) rfl (ll_cons (ll_cons (ll_nil)))))) (fun _ _ => rfl))) (l_nil)))))))))
theorem ok_case {f : Addr} {fd : FuncData} (Z : Zs K mg f_all_standing d_all_standing f_readers_of d_readers_of f_all_resting d_all_resting f_rests_on d_rests_on f_all_known d_all_known f_is_turned d_is_turned f_shaken d_shaken f_source d_source f_draw d_draw f_some d_some f_pact d_pact f_folk d_folk f_titles d_titles f_slips d_slips f_votes d_votes f_case d_case f_cases d_cases f_find d_find f_stands d_stands f_own_is_turned d_own_is_turned f_rests d_rests f_own_shaken d_own_shaken f_rumour d_rumour f_made d_made f_long d_long T_shaken_news V_VERDICTS U_VERDICTS) (F0 : Fun K "_law_case" "_law_case" st_case f fd) (F_draw : FnG P w K mg base (L2.CX P w) 1 f_draw d_draw ["feed", "choices"] (spI K w mg XR 2 Lw.fn_draw_2)) (F_some : FnG P w K mg base (L2.CX P w) 2 f_some d_some ["feed", "folk", "size"] (spI K w mg XR 3 Lw.fn_some)) (F_folk : FnG P w K mg base (L2.CX P w) 1 f_folk d_folk [] (spI K w mg XR 0 Lw.fn_folk_2)) (F_slips : FnG P w K mg base (L2.CX P w) 3 f_slips d_slips ["feed", "titles", "path"] (spI K w mg XR 3 Lw.fn_slips)) (F_votes : FnG P w K mg base (L2.CX P w) 3 f_votes d_votes ["feed", "pact", "seats"] (spI K w mg XR 3 Lw.fn_votes)) : FnG P w K mg base (L2.CX P w) 4 f fd ["feed", "pact", "titles", "found", "title"] (spI K w mg XR 5 Lw.fn_case) := by
  refine okI (N := ["feed", "pact", "titles", "found", "title", "unders", "under", "path", "above", "seats", "gone", "slips", "voices", "slip", "votes", "end", "one"]) (ps := ["feed", "pact", "titles", "found", "title"]) (k := 3) (body := Lw.m_case) [true, false, false, true, false] F0 sc_case rfl (by decide) fun cdv A outer s H E hg hr => ?_
  have hu := hr.units
  have hu1 := hr.units1
  have tk : Takes (cxOf (L2.CX P w) P w K mg base ["feed", "pact", "titles", "found", "title", "unders", "under", "path", "above", "seats", "gone", "slips", "voices", "slip", "votes", "end", "one"] "_law_case" (defScope st_case) f cdv A outer s H E) (fun cls d _ H' => E cls d H') := takes_of rfl rfl rfl rfl
  exact ss_cons (s_setCO (n := 17) (own := [("one", 16)]) (j := 5) rfl sc_case.nd rfl s_case_unders (sw_true rfl s_case_unders rfl rfl) ((pe_var (i := 3) rfl (.inl s_case_found))) (blkOk_by (N := ["feed", "pact", "titles", "found", "title", "unders", "under", "path", "above", "seats", "gone", "slips", "voices", "slip", "votes", "end", "one"]) (sc := defScope st_case) (own := [("one", 16)]) (by decide +kernel)) (fun _ _ _ _ _ => pg_name (i := 16) sc_case.nd rfl (.inl rfl)) (g_name) (fun _ _ _ _ _ => c_one (t_w (w_and (t_cmp (od_eq hu) (a_of_d (d_ix (a_of_d (d_ix (a_name (pe_var (i := 16) rfl (.inl rfl))) (a_of_d (d_int)) (fun _ _ => rfl))) (a_of_d (d_int)) (fun _ _ => rfl))) (a_of_d (d_ix (a_name (pe_var (i := 4) rfl (.inr (.inl (blk_look (sc := defScope st_case) rfl (by decide +kernel)))))) (a_of_d (d_int)) (fun _ _ => rfl)))) (w_one1 (t_cmp (od_in hu) (a_of_d (d_ix (a_name (pe_var (i := 16) rfl (.inl rfl))) (a_of_d (d_int)) (fun _ _ => rfl))) (a_of_d (d_tup (l_cons (a_of_d (d_str)) (l_cons (a_of_d (d_str)) (l_nil)))))))))) (fun _ _ _ _ _ => d_ix (a_name (pe_var (i := 16) rfl (.inl rfl))) (a_of_d (d_int)) (fun _ _ => rfl))) (ss_cons (s_set (i := 6) sc_case.nd rfl (.inl s_case_under) (o_if (t_w (w_and (t_cmp (od_ne hu) (a_name (pe_var (i := 5) rfl (.inl s_case_unders))) (a_of_d (d_of_o (o_lst (l_nil))))) (w_one1 (t_cmp (od_eq hu) (a_of_d (d_of_o (o_fnO F_draw hg (hr.mono (by decide)) s_case__law_draw Z.g_draw Z.k_draw Z.b_draw tk (l_cons (a_name (pe_var (i := 0) rfl (.inl s_case_feed))) (l_cons (a_of_d (d_int)) (l_nil))) rfl (ll_cons (ll_cons (ll_nil)))))) (a_of_d (d_int)))))) (o_of_d (d_ix (a_name (pe_var (i := 5) rfl (.inl s_case_unders))) (a_of_d (d_of_o (o_fnO F_draw hg (hr.mono (by decide)) s_case__law_draw Z.g_draw Z.k_draw Z.b_draw tk (l_cons (a_name (pe_var (i := 0) rfl (.inl s_case_feed))) (l_cons (a_of_d (d_of_o (o_call co_len s_case_len Z.n_len b_len (l_cons (a_name (pe_var (i := 5) rfl (.inl s_case_unders))) (l_nil))))) (l_nil))) rfl (ll_cons (ll_cons (ll_nil)))))) (fun _ _ => rfl))) (o_of_d (d_none)))) (ss_cons (s_parC (n := 17) rfl (pg_name (i := 7) sc_case.nd rfl (.inl s_case_path)) (pg_name (i := 8) sc_case.nd rfl (.inr s_case_above)) (o_lst (l_cons (a_of_d (d_name (pe_var (i := 4) rfl (.inr (.inl s_case_title))))) (l_nil))) (o_of_d (d_name (pe_var (i := 6) rfl (.inl s_case_under)))) (hg1 := pgs_cons (pg_name (i := 7) sc_case.nd rfl (.inl s_case_path)) (pgs_cons (pg_name (i := 8) sc_case.nd rfl (.inr s_case_above)) pgs_nil))) (ss_cons (s_while 5000 (passes_of rfl) (t_notN (a_name (pe_var (i := 8) rfl (.inr (.inl s_case_above))))) (ss_cons (s_expr (x_append (pe_var (i := 7) rfl (.inl s_case_path)) (d_name (pe_var (i := 8) rfl (.inr (.inl s_case_above)))))) (ss_one (s_set (i := 8) sc_case.nd rfl (.inr s_case_above) (o_of_d (d_ix (a_of_d (d_of_o (o_compO (n := 17) (own := [("one", 16)]) rfl sc_case.nd ((pe_var (i := 3) rfl (.inl s_case_found))) (blkOk_by (N := ["feed", "pact", "titles", "found", "title", "unders", "under", "path", "above", "seats", "gone", "slips", "voices", "slip", "votes", "end", "one"]) (sc := defScope st_case) (own := [("one", 16)]) (by decide +kernel)) (fun _ _ _ _ _ => pg_name (i := 16) sc_case.nd rfl (.inl rfl)) (g_name) (fun _ _ _ _ _ => c_one (t_cmp (od_eq hu) (a_of_d (d_ix (a_name (pe_var (i := 16) rfl (.inl rfl))) (a_of_d (d_int)) (fun _ _ => rfl))) (a_name (pe_var (i := 8) rfl (.inr (.inl (blk_look (sc := defScope st_case) rfl (by decide +kernel)))))))) (fun _ _ _ _ _ => d_ix (a_name (pe_var (i := 16) rfl (.inl rfl))) (a_of_d (d_int)) (fun _ _ => rfl))))) (a_of_d (d_int)) (fun _ _ => rfl))))))) (ss_cons (s_set (i := 9) sc_case.nd rfl (.inl s_case_seats) (o_fnO F_some hg (hr.mono (by decide)) s_case__law_some Z.g_some Z.k_some Z.b_some tk (l_cons (a_name (pe_var (i := 0) rfl (.inl s_case_feed))) (l_cons (a_of_d (d_of_o (o_fnP0 (n2 := 0) F_folk hg (hr.mono (by decide)) s_case__law_folk Z.g_folk Z.k_folk Z.p_folk_0_ Z.q_folk_0_ rfl rfl tk (k_nil) (ll_nil)))) (l_cons (a_of_d (d_of_o (o_fnO F_draw hg (hr.mono (by decide)) s_case__law_draw Z.g_draw Z.k_draw Z.b_draw tk (l_cons (a_name (pe_var (i := 0) rfl (.inl s_case_feed))) (l_cons (a_of_d (d_of_o (o_op ao_add (a_of_d (d_ix (a_name (pe_var (i := 1) rfl (.inl s_case_pact))) (a_of_d (d_int)) (fun _ _ => rfl))) (a_of_d (d_int))))) (l_nil))) rfl (ll_cons (ll_cons (ll_nil)))))) (l_nil)))) rfl (ll_cons (ll_cons (ll_cons (ll_nil)))))) (ss_cons (s_set (i := 10) sc_case.nd rfl (.inl s_case_gone) (o_fnO F_some hg (hr.mono (by decide)) s_case__law_some Z.g_some Z.k_some Z.b_some tk (l_cons (a_name (pe_var (i := 0) rfl (.inl s_case_feed))) (l_cons (a_of_d (d_of_o (o_fnP0 (n2 := 0) F_folk hg (hr.mono (by decide)) s_case__law_folk Z.g_folk Z.k_folk Z.p_folk_0_ Z.q_folk_0_ rfl rfl tk (k_nil) (ll_nil)))) (l_cons (a_of_d (d_of_o (o_fnO F_draw hg (hr.mono (by decide)) s_case__law_draw Z.g_draw Z.k_draw Z.b_draw tk (l_cons (a_name (pe_var (i := 0) rfl (.inl s_case_feed))) (l_cons (a_of_d (d_int)) (l_nil))) rfl (ll_cons (ll_cons (ll_nil)))))) (l_nil)))) rfl (ll_cons (ll_cons (ll_cons (ll_nil)))))) (ss_cons (s_set (i := 11) sc_case.nd rfl (.inl s_case_slips) (o_fnO F_slips hg (hr.mono (by decide)) s_case__law_slips Z.g_slips Z.k_slips Z.b_slips tk (l_cons (a_name (pe_var (i := 0) rfl (.inl s_case_feed))) (l_cons (a_of_d (d_name (pe_var (i := 2) rfl (.inl s_case_titles)))) (l_cons (a_of_d (d_name (pe_var (i := 7) rfl (.inl s_case_path)))) (l_nil)))) rfl (ll_cons (ll_cons (ll_cons (ll_nil)))))) (ss_cons (s_set (i := 12) sc_case.nd rfl (.inl s_case_voices) (o_callTy co_list s_case_list Z.n_list b_list (l_cons (a_of_d (d_of_o (o_op ao_add (a_name (pe_var (i := 9) rfl (.inl s_case_seats))) (a_name (pe_var (i := 10) rfl (.inl s_case_gone)))))) (l_nil)))) (ss_cons (s_for (n := 17) (passes_of rfl) rfl (i_seq (d_name (pe_var (i := 11) rfl (.inl s_case_slips)))) (pg_name (i := 13) sc_case.nd rfl (.inl s_case_slip)) (g_name) (ss_one (s_expr (x_extend (pe_var (i := 12) rfl (.inl s_case_voices)) (d_of_o (o_callTy co_list s_case_list Z.n_list b_list (l_cons (a_of_d (d_ix (a_name (pe_var (i := 13) rfl (.inl s_case_slip))) (a_of_d (d_int)) (fun _ _ => rfl))) (l_nil)))))))) (ss_cons (s_un (n := 17) (d_of_o (o_fnO F_votes hg (hr.mono (by decide)) s_case__law_votes Z.g_votes Z.k_votes Z.b_votes tk (l_cons (a_name (pe_var (i := 0) rfl (.inl s_case_feed))) (l_cons (a_of_d (d_name (pe_var (i := 1) rfl (.inl s_case_pact)))) (l_cons (a_of_d (d_name (pe_var (i := 9) rfl (.inl s_case_seats)))) (l_nil)))) rfl (ll_cons (ll_cons (ll_cons (ll_nil)))))) (pg_tup (n := 2) rfl (pgs_cons (pg_name (i := 14) sc_case.nd rfl (.inl s_case_votes)) (pgs_cons (pg_name (i := 15) sc_case.nd rfl (.inl s_case_end)) (pgs_nil)))) (g_tup (.cons (g_name) (.cons (g_name) (.nil))))) (ss_one (s_ret (o_of_d (d_tup (l_cons (a_of_d (d_name (pe_var (i := 4) rfl (.inr (.inl s_case_title))))) (l_cons (a_of_d (d_name (pe_var (i := 6) rfl (.inl s_case_under)))) (l_cons (a_of_d (d_name (pe_var (i := 9) rfl (.inl s_case_seats)))) (l_cons (a_of_d (d_of_o (o_callTy co_tuple s_case_tuple Z.n_tuple b_tuple (l_cons (a_of_d (d_of_o (o_sset rfl hu s_case_sorted Z.n_sorted s_case_set Z.n_set (l_cons (a_name (pe_var (i := 12) rfl (.inl s_case_voices))) (l_nil))))) (l_nil))))) (l_cons (a_of_d (d_name (pe_var (i := 11) rfl (.inl s_case_slips)))) (l_cons (a_of_d (d_name (pe_var (i := 14) rfl (.inl s_case_votes)))) (l_cons (a_of_d (d_name (pe_var (i := 15) rfl (.inl s_case_end)))) (l_nil)))))))))))))))))))))
theorem ok_cases {f : Addr} {fd : FuncData} (Z : Zs K mg f_all_standing d_all_standing f_readers_of d_readers_of f_all_resting d_all_resting f_rests_on d_rests_on f_all_known d_all_known f_is_turned d_is_turned f_shaken d_shaken f_source d_source f_draw d_draw f_some d_some f_pact d_pact f_folk d_folk f_titles d_titles f_slips d_slips f_votes d_votes f_case d_case f_cases d_cases f_find d_find f_stands d_stands f_own_is_turned d_own_is_turned f_rests d_rests f_own_shaken d_own_shaken f_rumour d_rumour f_made d_made f_long d_long T_shaken_news V_VERDICTS U_VERDICTS) (F0 : Fun K "_law_cases" "_law_cases" st_cases f fd) (F_titles : FnG P w K mg base (L2.CX P w) 2 f_titles d_titles ["feed"] (spI K w mg XR 1 Lw.fn_titles_2)) (F_case : FnG P w K mg base (L2.CX P w) 4 f_case d_case ["feed", "pact", "titles", "found", "title"] (spI K w mg XR 5 Lw.fn_case)) : FnG P w K mg base (L2.CX P w) 5 f fd ["feed", "pact"] (spI K w mg XR 2 Lw.fn_cases) := by
  refine okI (N := ["feed", "pact", "titles", "found", "title"]) (ps := ["feed", "pact"]) (k := 4) (body := Lw.m_cases) [true, false] F0 sc_cases rfl (by decide) fun cdv A outer s H E hg hr => ?_
  have hu := hr.units
  have hu1 := hr.units1
  have tk : Takes (cxOf (L2.CX P w) P w K mg base ["feed", "pact", "titles", "found", "title"] "_law_cases" (defScope st_cases) f cdv A outer s H E) (fun cls d _ H' => E cls d H') := takes_of rfl rfl rfl rfl
  exact ss_cons (s_par rfl sc_cases.nd rfl rfl s_cases_titles s_cases_found (o_fnO F_titles hg (hr.mono (by decide)) s_cases__law_titles Z.g_titles Z.k_titles Z.b_titles tk (l_cons (a_name (pe_var (i := 0) rfl (.inl s_cases_feed))) (l_nil)) rfl (ll_cons (ll_nil))) (o_lst (l_nil))) (ss_cons (s_for (n := 5) (passes_of rfl) rfl (i_seq (d_name (pe_var (i := 2) rfl (.inl s_cases_titles)))) (pg_name (i := 4) sc_cases.nd rfl (.inl s_cases_title)) (g_name) (ss_one (s_expr (x_append (pe_var (i := 3) rfl (.inl s_cases_found)) (d_of_o (o_fnL F_case hg (hr.mono (by decide)) s_cases__law_case Z.g_case Z.k_case Z.b_case tk (l_cons (a_name (pe_var (i := 0) rfl (.inl s_cases_feed))) (l_cons (a_of_d (d_name (pe_var (i := 1) rfl (.inl s_cases_pact)))) (l_cons (a_of_d (d_name (pe_var (i := 2) rfl (.inl s_cases_titles)))) (l_cons (a_name (pe_var (i := 3) rfl (.inl s_cases_found))) (l_cons (a_of_d (d_name (pe_var (i := 4) rfl (.inl s_cases_title)))) (l_nil)))))) rfl (ll_cons (ll_cons (ll_cons (ll_cons (ll_cons (ll_nil)))))))))))) (ss_one (s_ret (o_callTy co_tuple s_cases_tuple Z.n_tuple b_tuple (l_cons (a_name (pe_var (i := 3) rfl (.inl s_cases_found))) (l_nil))))))
theorem ok_find {f : Addr} {fd : FuncData} (Z : Zs K mg f_all_standing d_all_standing f_readers_of d_readers_of f_all_resting d_all_resting f_rests_on d_rests_on f_all_known d_all_known f_is_turned d_is_turned f_shaken d_shaken f_source d_source f_draw d_draw f_some d_some f_pact d_pact f_folk d_folk f_titles d_titles f_slips d_slips f_votes d_votes f_case d_case f_cases d_cases f_find d_find f_stands d_stands f_own_is_turned d_own_is_turned f_rests d_rests f_own_shaken d_own_shaken f_rumour d_rumour f_made d_made f_long d_long T_shaken_news V_VERDICTS U_VERDICTS) (F0 : Fun K "_law_find" "_law_find" st_find f fd)  : FnG P w K mg base (L2.CX P w) 1 f fd ["cases", "title"] (spI K w mg XR 2 Lw.fn_find) := by
  refine okI (N := ["cases", "title", "one"]) (ps := ["cases", "title"]) (k := 0) (body := Lw.m_find) [false, false] F0 sc_find rfl (by decide) fun cdv A outer s H E hg hr => ?_
  have hu := hr.units
  have hu1 := hr.units1
  have tk : Takes (cxOf (L2.CX P w) P w K mg base ["cases", "title", "one"] "_law_find" (defScope st_find) f cdv A outer s H E) (fun cls d _ H' => E cls d H') := takes_of rfl rfl rfl rfl
  exact ss_one (s_ret (o_of_d (d_ix (a_of_d (d_of_o (o_comp (n := 3) (own := [("one", 2)]) rfl sc_find.nd (i_seq (d_name (pe_var (i := 0) rfl (.inl s_find_cases)))) (blkOk_by (N := ["cases", "title", "one"]) (sc := defScope st_find) (own := [("one", 2)]) (by decide +kernel)) (fun _ _ _ _ _ => pg_name (i := 2) sc_find.nd rfl (.inl rfl)) (g_name) (fun _ _ _ _ _ => c_one (t_cmp (od_eq hu) (a_of_d (d_ix (a_name (pe_var (i := 2) rfl (.inl rfl))) (a_of_d (d_int)) (fun _ _ => rfl))) (a_name (pe_var (i := 1) rfl (.inr (.inl (blk_look (sc := defScope st_find) rfl (by decide +kernel)))))))) (fun _ _ _ _ _ => d_name (pe_var (i := 2) rfl (.inl rfl)))))) (a_of_d (d_int)) (fun _ _ => rfl))))
theorem ok_stands (Z : Zs K mg f_all_standing d_all_standing f_readers_of d_readers_of f_all_resting d_all_resting f_rests_on d_rests_on f_all_known d_all_known f_is_turned d_is_turned f_shaken d_shaken f_source d_source f_draw d_draw f_some d_some f_pact d_pact f_folk d_folk f_titles d_titles f_slips d_slips f_votes d_votes f_case d_case f_cases d_cases f_find d_find f_stands d_stands f_own_is_turned d_own_is_turned f_rests d_rests f_own_shaken d_own_shaken f_rumour d_rumour f_made d_made f_long d_long T_shaken_news V_VERDICTS U_VERDICTS) (F0 : Fun K "_law_stands" "_law_stands" st_stands f_stands d_stands) (F_find : FnG P w K mg base (L2.CX P w) 1 f_find d_find ["cases", "title"] (spI K w mg XR 2 Lw.fn_find)) : ∀ n : Nat, FnG P w K mg base (L2.CX P w) (2 + n) f_stands d_stands ["cases", "title"] (spI K w mg XR 2 (Lw.fn_stands n))
  | 0 => fnG_bad rfl
  | n + 1 => by
    have F_stands := ok_stands Z F0 F_find n
    refine okI (N := ["cases", "title", "own", "found", "later", "word", "one"]) (ps := ["cases", "title"]) (k := 2 + n) (body := Lw.m_stands (Lw.fn_stands n)) [false, false] F0 sc_stands rfl (by decide) fun cdv A outer s H E hg hr => ?_
    have hu := hr.units
    have hu1 := hr.units1
    have tk : Takes (cxOf (L2.CX P w) P w K mg base ["cases", "title", "own", "found", "later", "word", "one"] "_law_stands" (defScope st_stands) f_stands cdv A outer s H E) (fun cls d _ H' => E cls d H') := takes_of rfl rfl rfl rfl
    exact ss_cons (s_set (i := 2) sc_stands.nd rfl (.inl s_stands_own) (o_of_d (d_ix (a_of_d (d_of_o (o_fn F_find hg (hr.mono (by omega)) s_stands__law_find Z.g_find Z.k_find Z.b_find tk (l_cons (a_of_d (d_name (pe_var (i := 0) rfl (.inl s_stands_cases)))) (l_cons (a_of_d (d_name (pe_var (i := 1) rfl (.inr (.inl s_stands_title))))) (l_nil))) rfl (ll_cons (ll_cons (ll_nil)))))) (a_of_d (d_int)) (fun _ _ => rfl)))) (ss_cons (s_set (i := 3) sc_stands.nd rfl (.inl s_stands_found) (o_if (t_cmp (od_in hu) (a_name (pe_var (i := 2) rfl (.inl s_stands_own))) (a_of_d (d_tup (l_cons (a_of_d (d_str)) (l_cons (a_of_d (d_str)) (l_nil)))))) (o_of_d (d_name (pe_var (i := 2) rfl (.inl s_stands_own)))) (o_of_d (d_none)))) (ss_cons (s_for (n := 7) (passes_of rfl) rfl (i_seq (d_of_o (o_comp (n := 7) (own := [("one", 6)]) rfl sc_stands.nd (i_seq (d_name (pe_var (i := 0) rfl (.inl s_stands_cases)))) (blkOk_by (N := ["cases", "title", "own", "found", "later", "word", "one"]) (sc := defScope st_stands) (own := [("one", 6)]) (by decide +kernel)) (fun _ _ _ _ _ => pg_name (i := 6) sc_stands.nd rfl (.inl rfl)) (g_name) (fun _ _ _ _ _ => c_one (t_cmp (od_eq hu) (a_of_d (d_ix (a_name (pe_var (i := 6) rfl (.inl rfl))) (a_of_d (d_int)) (fun _ _ => rfl))) (a_name (pe_var (i := 1) rfl (.inr (.inl (blk_look (sc := defScope st_stands) rfl (by decide +kernel)))))))) (fun _ _ _ _ _ => d_ix (a_name (pe_var (i := 6) rfl (.inl rfl))) (a_of_d (d_int)) (fun _ _ => rfl))))) (pg_name (i := 4) sc_stands.nd rfl (.inl s_stands_later)) (g_name) (ss_cons (s_set (i := 5) sc_stands.nd rfl (.inl s_stands_word) (o_fn F_stands hg (hr.mono (by omega)) s_stands__law_stands Z.g_stands Z.k_stands Z.b_stands tk (l_cons (a_of_d (d_name (pe_var (i := 0) rfl (.inl s_stands_cases)))) (l_cons (a_of_d (d_name (pe_var (i := 4) rfl (.inl s_stands_later)))) (l_nil))) rfl (ll_cons (ll_cons (ll_nil))))) (ss_one (s_set (i := 3) sc_stands.nd rfl (.inl s_stands_found) (o_if (t_isN (a_name (pe_var (i := 5) rfl (.inl s_stands_word)))) (o_of_d (d_name (pe_var (i := 3) rfl (.inl s_stands_found)))) (o_of_d (d_name (pe_var (i := 5) rfl (.inl s_stands_word))))))))) (ss_one (s_ret (o_take (pe_var (i := 3) rfl (.inl s_stands_found)))))))
theorem ok_own_is_turned {f : Addr} {fd : FuncData} (Z : Zs K mg f_all_standing d_all_standing f_readers_of d_readers_of f_all_resting d_all_resting f_rests_on d_rests_on f_all_known d_all_known f_is_turned d_is_turned f_shaken d_shaken f_source d_source f_draw d_draw f_some d_some f_pact d_pact f_folk d_folk f_titles d_titles f_slips d_slips f_votes d_votes f_case d_case f_cases d_cases f_find d_find f_stands d_stands f_own_is_turned d_own_is_turned f_rests d_rests f_own_shaken d_own_shaken f_rumour d_rumour f_made d_made f_long d_long T_shaken_news V_VERDICTS U_VERDICTS) (F0 : Fun K "_law_is_turned" "_law_is_turned" st_own_is_turned f fd) (F_stands : FnG P w K mg base (L2.CX P w) 17 f_stands d_stands ["cases", "title"] (spI K w mg XR 2 (Lw.fn_stands 15))) : FnG P w K mg base (L2.CX P w) 18 f fd ["cases", "rumour", "slip"] (spI K w mg XR 3 Lw.fn_own_is_turned) := by
  refine okI (N := ["cases", "rumour", "slip", "later", "word", "one"]) (ps := ["cases", "rumour", "slip"]) (k := 17) (body := Lw.m_own_is_turned) [false, false, false] F0 sc_own_is_turned rfl (by decide) fun cdv A outer s H E hg hr => ?_
  have hu := hr.units
  have hu1 := hr.units1
  have tk : Takes (cxOf (L2.CX P w) P w K mg base ["cases", "rumour", "slip", "later", "word", "one"] "_law_is_turned" (defScope st_own_is_turned) f cdv A outer s H E) (fun cls d _ H' => E cls d H') := takes_of rfl rfl rfl rfl
  exact ss_cons (s_setC (n := 6) (own := [("one", 5)]) (i := 3) rfl sc_own_is_turned.nd rfl s_own_is_turned_later (sw_true rfl s_own_is_turned_later rfl rfl) (i_seq (d_name (pe_var (i := 1) rfl (.inl s_own_is_turned_rumour)))) (blkOk_by (N := ["cases", "rumour", "slip", "later", "word", "one"]) (sc := defScope st_own_is_turned) (own := [("one", 5)]) (by decide +kernel)) (fun _ _ _ _ _ => pg_name (i := 5) sc_own_is_turned.nd rfl (.inl rfl)) (g_name) (fun _ _ _ _ _ => c_one (t_cmp (od_eq hu) (a_of_d (d_ix (a_name (pe_var (i := 5) rfl (.inl rfl))) (a_of_d (d_int)) (fun _ _ => rfl))) (a_of_d (d_ix (a_name (pe_var (i := 2) rfl (.inr (.inl (blk_look (sc := defScope st_own_is_turned) rfl (by decide +kernel)))))) (a_of_d (d_int)) (fun _ _ => rfl))))) (fun _ _ _ _ _ => d_ix (a_name (pe_var (i := 5) rfl (.inl rfl))) (a_of_d (d_int)) (fun _ _ => rfl))) (ss_cons (s_set (i := 4) sc_own_is_turned.nd rfl (.inl s_own_is_turned_word) (o_if (t_cmp (od_ne hu) (a_name (pe_var (i := 3) rfl (.inl s_own_is_turned_later))) (a_of_d (d_of_o (o_lst (l_nil))))) (o_of_d (d_ix (a_name (pe_var (i := 3) rfl (.inl s_own_is_turned_later))) (a_of_d (d_neg (d_int))) (fun _ _ => rfl))) (o_of_d (d_none)))) (ss_cons (s_if (t_cmp (od_in hu) (a_of_d (d_ix (a_name (pe_var (i := 2) rfl (.inr (.inl s_own_is_turned_slip)))) (a_of_d (d_int)) (fun _ _ => rfl))) (a_of_d (d_of_o (o_comp (n := 6) (own := [("one", 5)]) rfl sc_own_is_turned.nd (i_seq (d_name (pe_var (i := 0) rfl (.inl s_own_is_turned_cases)))) (blkOk_by (N := ["cases", "rumour", "slip", "later", "word", "one"]) (sc := defScope st_own_is_turned) (own := [("one", 5)]) (by decide +kernel)) (fun _ _ _ _ _ => pg_name (i := 5) sc_own_is_turned.nd rfl (.inl rfl)) (g_name) (fun _ _ _ _ _ => c_none) (fun _ _ _ _ _ => d_ix (a_name (pe_var (i := 5) rfl (.inl rfl))) (a_of_d (d_int)) (fun _ _ => rfl)))))) (ss_one (s_set (i := 4) sc_own_is_turned.nd rfl (.inl s_own_is_turned_word) (o_fn F_stands hg (hr.mono (by decide)) s_own_is_turned__law_stands Z.g_stands Z.k_stands Z.b_stands tk (l_cons (a_of_d (d_name (pe_var (i := 0) rfl (.inl s_own_is_turned_cases)))) (l_cons (a_of_d (d_ix (a_name (pe_var (i := 2) rfl (.inr (.inl s_own_is_turned_slip)))) (a_of_d (d_int)) (fun _ _ => rfl))) (l_nil))) rfl (ll_cons (ll_cons (ll_nil)))))) (ss_nil)) (ss_one (s_ret (o_of_d (d_and (d_notN (a_name (pe_var (i := 4) rfl (.inl s_own_is_turned_word)))) (d_one (d_cmp (od_ne hu) (a_name (pe_var (i := 4) rfl (.inl s_own_is_turned_word))) (a_of_d (d_ix (a_name (pe_var (i := 2) rfl (.inr (.inl s_own_is_turned_slip)))) (a_of_d (d_int)) (fun _ _ => rfl)))))))))))
theorem ok_rests {f : Addr} {fd : FuncData} (Z : Zs K mg f_all_standing d_all_standing f_readers_of d_readers_of f_all_resting d_all_resting f_rests_on d_rests_on f_all_known d_all_known f_is_turned d_is_turned f_shaken d_shaken f_source d_source f_draw d_draw f_some d_some f_pact d_pact f_folk d_folk f_titles d_titles f_slips d_slips f_votes d_votes f_case d_case f_cases d_cases f_find d_find f_stands d_stands f_own_is_turned d_own_is_turned f_rests d_rests f_own_shaken d_own_shaken f_rumour d_rumour f_made d_made f_long d_long T_shaken_news V_VERDICTS U_VERDICTS) (F0 : Fun K "_law_rests" "_law_rests" st_rests f fd)  : FnG P w K mg base (L2.CX P w) 1 f fd ["cases", "titles"] (spI K w mg XR 2 Lw.fn_rests) := by
  refine okI (N := ["cases", "titles", "found", "more", "one", "led", "slip"]) (ps := ["cases", "titles"]) (k := 0) (body := Lw.m_rests) [false, false] F0 sc_rests rfl (by decide) fun cdv A outer s H E hg hr => ?_
  have hu := hr.units
  have hu1 := hr.units1
  have tk : Takes (cxOf (L2.CX P w) P w K mg base ["cases", "titles", "found", "more", "one", "led", "slip"] "_law_rests" (defScope st_rests) f cdv A outer s H E) (fun cls d _ H' => E cls d H') := takes_of rfl rfl rfl rfl
  exact ss_cons (s_parC (n := 7) rfl (pg_name (i := 2) sc_rests.nd rfl (.inr s_rests_found)) (pg_name (i := 3) sc_rests.nd rfl (.inl s_rests_more)) (o_lst (l_nil)) (o_lst (l_cons (a_of_d (d_none)) (l_nil))) (hg1 := pgs_cons (pg_name (i := 2) sc_rests.nd rfl (.inr s_rests_found)) (pgs_cons (pg_name (i := 3) sc_rests.nd rfl (.inl s_rests_more)) pgs_nil))) (ss_cons (s_while 5000 (passes_of rfl) (t_cmp (od_ne hu) (a_name (pe_var (i := 3) rfl (.inl s_rests_more))) (a_of_d (d_of_o (o_lst (l_nil))))) (ss_cons (s_set (i := 3) sc_rests.nd rfl (.inl s_rests_more) (o_lst (l_nil))) (ss_cons (s_for (n := 7) (passes_of rfl) rfl (i_seq (d_name (pe_var (i := 0) rfl (.inl s_rests_cases)))) (pg_name (i := 4) sc_rests.nd rfl (.inl s_rests_one)) (g_name) (ss_cons (s_setC (n := 7) (own := [("slip", 6)]) (i := 5) rfl sc_rests.nd rfl s_rests_led (sw_true rfl s_rests_led rfl rfl) (i_seq (d_ix (a_name (pe_var (i := 4) rfl (.inl s_rests_one))) (a_of_d (d_int)) (fun _ _ => rfl))) (blkOk_by (N := ["cases", "titles", "found", "more", "one", "led", "slip"]) (sc := defScope st_rests) (own := [("slip", 6)]) (by decide +kernel)) (fun _ _ _ _ _ => pg_name (i := 6) sc_rests.nd rfl (.inl rfl)) (g_name) (fun _ _ _ _ _ => c_one (t_cmp (od_in hu) (a_of_d (d_ix (a_name (pe_var (i := 6) rfl (.inl rfl))) (a_of_d (d_int)) (fun _ _ => rfl))) (a_of_d (d_of_o (o_op ao_add (a_name (pe_var (i := 1) rfl (.inr (.inl (blk_look (sc := defScope st_rests) rfl (by decide +kernel)))))) (a_name (pe_var (i := 2) rfl (.inr (.inl (blk_look (sc := defScope st_rests) rfl (by decide +kernel))))))))))) (fun _ _ _ _ _ => d_name (pe_var (i := 6) rfl (.inl rfl)))) (ss_one (s_if (t_w (w_and (t_cmp (od_ne hu) (a_name (pe_var (i := 5) rfl (.inl s_rests_led))) (a_of_d (d_of_o (o_lst (l_nil))))) (w_one1 (t_cmp (od_notIn hu) (a_of_d (d_ix (a_name (pe_var (i := 4) rfl (.inl s_rests_one))) (a_of_d (d_int)) (fun _ _ => rfl))) (a_name (pe_var (i := 2) rfl (.inr (.inl s_rests_found)))))))) (ss_one (s_expr (x_append (pe_var (i := 3) rfl (.inl s_rests_more)) (d_ix (a_name (pe_var (i := 4) rfl (.inl s_rests_one))) (a_of_d (d_int)) (fun _ _ => rfl))))) (ss_nil))))) (ss_one (s_set (i := 2) sc_rests.nd rfl (.inr s_rests_found) (o_op ao_add (a_name (pe_var (i := 2) rfl (.inr (.inl s_rests_found)))) (a_name (pe_var (i := 3) rfl (.inl s_rests_more))))))))) (ss_one (s_ret (o_callTy co_tuple s_rests_tuple Z.n_tuple b_tuple (l_cons (a_of_d (d_of_o (o_call (co_sorted hu) s_rests_sorted Z.n_sorted b_sorted (l_cons (a_name (pe_var (i := 2) rfl (.inr (.inl s_rests_found)))) (l_nil))))) (l_nil))))))
theorem ok_own_shaken {f : Addr} {fd : FuncData} (Z : Zs K mg f_all_standing d_all_standing f_readers_of d_readers_of f_all_resting d_all_resting f_rests_on d_rests_on f_all_known d_all_known f_is_turned d_is_turned f_shaken d_shaken f_source d_source f_draw d_draw f_some d_some f_pact d_pact f_folk d_folk f_titles d_titles f_slips d_slips f_votes d_votes f_case d_case f_cases d_cases f_find d_find f_stands d_stands f_own_is_turned d_own_is_turned f_rests d_rests f_own_shaken d_own_shaken f_rumour d_rumour f_made d_made f_long d_long T_shaken_news V_VERDICTS U_VERDICTS) (F0 : Fun K "_law_shaken" "_law_shaken" st_own_shaken f fd) (F_own_is_turned : FnG P w K mg base (L2.CX P w) 18 f_own_is_turned d_own_is_turned ["cases", "rumour", "slip"] (spI K w mg XR 3 Lw.fn_own_is_turned)) (F_rests : FnG P w K mg base (L2.CX P w) 1 f_rests d_rests ["cases", "titles"] (spI K w mg XR 2 Lw.fn_rests)) : FnG P w K mg base (L2.CX P w) 19 f fd ["cases", "rumour"] (spI K w mg XR 2 Lw.fn_own_shaken) := by
  refine okI (N := ["cases", "rumour", "first", "one", "slip"]) (ps := ["cases", "rumour"]) (k := 18) (body := Lw.m_own_shaken) [false, false] F0 sc_own_shaken rfl (by decide) fun cdv A outer s H E hg hr => ?_
  have hu := hr.units
  have hu1 := hr.units1
  have tk : Takes (cxOf (L2.CX P w) P w K mg base ["cases", "rumour", "first", "one", "slip"] "_law_shaken" (defScope st_own_shaken) f cdv A outer s H E) (fun cls d _ H' => E cls d H') := takes_of rfl rfl rfl rfl
  exact ss_cons (s_setC (n := 5) (own := [("one", 3)]) (i := 2) rfl sc_own_shaken.nd rfl s_own_shaken_first (sw_true rfl s_own_shaken_first rfl rfl) (i_seq (d_name (pe_var (i := 0) rfl (.inr (.inl s_own_shaken_cases))))) (blkOk_by (N := ["cases", "rumour", "first", "one", "slip"]) (sc := defScope st_own_shaken) (own := [("one", 3)]) (by decide +kernel)) (fun _ _ _ _ _ => pg_name (i := 3) sc_own_shaken.nd rfl (.inl rfl)) (g_name) (fun _ _ _ _ _ => c_one (t_cmp (od_ne hu) (a_of_d (d_of_o (o_comp (n := 5) (own := [("slip", 4)]) rfl sc_own_shaken.nd (i_seq (d_ix (a_name (pe_var (i := 3) rfl (.inl rfl))) (a_of_d (d_int)) (fun _ _ => rfl))) (blkOk2 (N := ["cases", "rumour", "first", "one", "slip"]) (sc := defScope st_own_shaken) (own := [("slip", 4)]) rfl (by decide +kernel)) (fun _ _ _ _ _ => pg_name (i := 4) sc_own_shaken.nd rfl (.inl rfl)) (g_name) (fun _ _ _ _ _ => c_one (t_tru (d_of_o (o_fn F_own_is_turned hg (hr.mono (by decide)) (blk_gl2 (sc := defScope st_own_shaken) rfl rfl (by decide +kernel)) Z.g_own_is_turned Z.k_own_is_turned Z.b_own_is_turned takes0 (l_cons (a_of_d (d_name (pe_var (i := 0) rfl (.inr (.inl (blk_look2 (sc := defScope st_own_shaken) rfl (by decide +kernel))))))) (l_cons (a_of_d (d_name (pe_var (i := 1) rfl (.inr (.inl (blk_look2 (sc := defScope st_own_shaken) rfl (by decide +kernel))))))) (l_cons (a_of_d (d_name (pe_var (i := 4) rfl (.inl rfl)))) (l_nil)))) rfl (ll_cons (ll_cons (ll_cons (ll_nil)))))))) (fun _ _ _ _ _ => d_name (pe_var (i := 4) rfl (.inl rfl)))))) (a_of_d (d_of_o (o_lst (l_nil)))))) (fun _ _ _ _ _ => d_ix (a_name (pe_var (i := 3) rfl (.inl rfl))) (a_of_d (d_int)) (fun _ _ => rfl))) (ss_one (s_ret (o_callTy co_tuple s_own_shaken_tuple Z.n_tuple b_tuple (l_cons (a_of_d (d_of_o (o_sset rfl hu s_own_shaken_sorted Z.n_sorted s_own_shaken_set Z.n_set (l_cons (a_of_d (d_of_o (o_op ao_add (a_name (pe_var (i := 2) rfl (.inl s_own_shaken_first))) (a_of_d (d_of_o (o_callTy co_list s_own_shaken_list Z.n_list b_list (l_cons (a_of_d (d_of_o (o_fn F_rests hg (hr.mono (by decide)) s_own_shaken__law_rests Z.g_rests Z.k_rests Z.b_rests tk (l_cons (a_of_d (d_name (pe_var (i := 0) rfl (.inr (.inl s_own_shaken_cases))))) (l_cons (a_of_d (d_name (pe_var (i := 2) rfl (.inl s_own_shaken_first)))) (l_nil))) rfl (ll_cons (ll_cons (ll_nil)))))) (l_nil)))))))) (l_nil))))) (l_nil)))))
theorem ok_rumour {f : Addr} {fd : FuncData} (Z : Zs K mg f_all_standing d_all_standing f_readers_of d_readers_of f_all_resting d_all_resting f_rests_on d_rests_on f_all_known d_all_known f_is_turned d_is_turned f_shaken d_shaken f_source d_source f_draw d_draw f_some d_some f_pact d_pact f_folk d_folk f_titles d_titles f_slips d_slips f_votes d_votes f_case d_case f_cases d_cases f_find d_find f_stands d_stands f_own_is_turned d_own_is_turned f_rests d_rests f_own_shaken d_own_shaken f_rumour d_rumour f_made d_made f_long d_long T_shaken_news V_VERDICTS U_VERDICTS) (F0 : Fun K "_law_rumour" "_law_rumour" st_rumour f fd) (F_draw : FnG P w K mg base (L2.CX P w) 1 f_draw d_draw ["feed", "choices"] (spI K w mg XR 2 Lw.fn_draw_2)) (F_some : FnG P w K mg base (L2.CX P w) 2 f_some d_some ["feed", "folk", "size"] (spI K w mg XR 3 Lw.fn_some)) (F_folk : FnG P w K mg base (L2.CX P w) 1 f_folk d_folk [] (spI K w mg XR 0 Lw.fn_folk_2)) : FnG P w K mg base (L2.CX P w) 3 f fd ["feed", "titles"] (spI K w mg XR 2 Lw.fn_rumour) := by
  refine okI (N := ["feed", "titles", "found", "pool", "k", "other"]) (ps := ["feed", "titles"]) (k := 2) (body := Lw.m_rumour) [true, false] F0 sc_rumour rfl (by decide) fun cdv A outer s H E hg hr => ?_
  have hu := hr.units
  have hu1 := hr.units1
  have tk : Takes (cxOf (L2.CX P w) P w K mg base ["feed", "titles", "found", "pool", "k", "other"] "_law_rumour" (defScope st_rumour) f cdv A outer s H E) (fun cls d _ H' => E cls d H') := takes_of rfl rfl rfl rfl
  exact ss_cons (s_par rfl sc_rumour.nd rfl rfl s_rumour_found s_rumour_pool (o_lst (l_nil)) (o_op ao_add (a_name (pe_var (i := 1) rfl (.inl s_rumour_titles))) (a_of_d (d_of_o (o_lst (l_cons (a_of_d (d_tup (l_cons (a_of_d (d_str)) (l_cons (a_of_d (d_int)) (l_cons (a_of_d (d_int)) (l_nil)))))) (l_cons (a_of_d (d_tup (l_cons (a_of_d (d_str)) (l_cons (a_of_d (d_int)) (l_cons (a_of_d (d_int)) (l_nil)))))) (l_cons (a_of_d (d_tup (l_cons (a_of_d (d_str)) (l_cons (a_of_d (d_int)) (l_cons (a_of_d (d_int)) (l_nil)))))) (l_nil))))))))) (ss_cons (s_for (n := 6) (passes_of rfl) rfl (i_range1 s_rumour_range Z.n_range (l_cons (a_of_d (d_of_o (o_fnO F_draw hg (hr.mono (by decide)) s_rumour__law_draw Z.g_draw Z.k_draw Z.b_draw tk (l_cons (a_name (pe_var (i := 0) rfl (.inl s_rumour_feed))) (l_cons (a_of_d (d_int)) (l_nil))) rfl (ll_cons (ll_cons (ll_nil)))))) (l_nil))) (pg_name (i := 4) sc_rumour.nd rfl (.inl s_rumour_k)) (g_name) (ss_cons (s_set (i := 5) sc_rumour.nd rfl (.inl s_rumour_other) (o_of_d (d_ix (a_name (pe_var (i := 3) rfl (.inl s_rumour_pool))) (a_of_d (d_of_o (o_fnO F_draw hg (hr.mono (by decide)) s_rumour__law_draw Z.g_draw Z.k_draw Z.b_draw tk (l_cons (a_name (pe_var (i := 0) rfl (.inl s_rumour_feed))) (l_cons (a_of_d (d_of_o (o_call co_len s_rumour_len Z.n_len b_len (l_cons (a_name (pe_var (i := 3) rfl (.inl s_rumour_pool))) (l_nil))))) (l_nil))) rfl (ll_cons (ll_cons (ll_nil)))))) (fun _ _ => rfl)))) (ss_one (s_expr (x_append (pe_var (i := 2) rfl (.inl s_rumour_found)) (d_tup (l_cons (a_of_d (d_name (pe_var (i := 5) rfl (.inl s_rumour_other)))) (l_cons (a_of_d (d_of_o (o_fnO F_some hg (hr.mono (by decide)) s_rumour__law_some Z.g_some Z.k_some Z.b_some tk (l_cons (a_name (pe_var (i := 0) rfl (.inl s_rumour_feed))) (l_cons (a_of_d (d_of_o (o_fnP0 (n2 := 0) F_folk hg (hr.mono (by decide)) s_rumour__law_folk Z.g_folk Z.k_folk Z.p_folk_0_ Z.q_folk_0_ rfl rfl tk (k_nil) (ll_nil)))) (l_cons (a_of_d (d_of_o (o_op ao_add (a_of_d (d_int)) (a_of_d (d_of_o (o_fnO F_draw hg (hr.mono (by decide)) s_rumour__law_draw Z.g_draw Z.k_draw Z.b_draw tk (l_cons (a_name (pe_var (i := 0) rfl (.inl s_rumour_feed))) (l_cons (a_of_d (d_int)) (l_nil))) rfl (ll_cons (ll_cons (ll_nil))))))))) (l_nil)))) rfl (ll_cons (ll_cons (ll_cons (ll_nil))))))) (l_cons (a_of_d (d_ix (a_of_d (d_of_o (o_lst (l_cons (a_of_d (d_str)) (l_cons (a_of_d (d_str)) (l_nil)))))) (a_of_d (d_of_o (o_fnO F_draw hg (hr.mono (by decide)) s_rumour__law_draw Z.g_draw Z.k_draw Z.b_draw tk (l_cons (a_name (pe_var (i := 0) rfl (.inl s_rumour_feed))) (l_cons (a_of_d (d_int)) (l_nil))) rfl (ll_cons (ll_cons (ll_nil)))))) (fun _ _ => rfl))) (l_nil)))))))))) (ss_one (s_ret (o_callTy co_tuple s_rumour_tuple Z.n_tuple b_tuple (l_cons (a_name (pe_var (i := 2) rfl (.inl s_rumour_found))) (l_nil))))))
theorem ok_made {f : Addr} {fd : FuncData} (Z : Zs K mg f_all_standing d_all_standing f_readers_of d_readers_of f_all_resting d_all_resting f_rests_on d_rests_on f_all_known d_all_known f_is_turned d_is_turned f_shaken d_shaken f_source d_source f_draw d_draw f_some d_some f_pact d_pact f_folk d_folk f_titles d_titles f_slips d_slips f_votes d_votes f_case d_case f_cases d_cases f_find d_find f_stands d_stands f_own_is_turned d_own_is_turned f_rests d_rests f_own_shaken d_own_shaken f_rumour d_rumour f_made d_made f_long d_long T_shaken_news V_VERDICTS U_VERDICTS) (F0 : Fun K "_law_made" "_law_made" st_made f fd)  : FnG P w K mg base (L2.CX P w) 1 f fd ["title", "under", "seats", "slips", "word"] (spI K w mg XR 5 Lw.fn_made) := by
  refine okI (N := ["title", "under", "seats", "slips", "word", "voices", "slip", "votes", "who"]) (ps := ["title", "under", "seats", "slips", "word"]) (k := 0) (body := Lw.m_made) [false, false, false, false, false] F0 sc_made rfl (by decide) fun cdv A outer s H E hg hr => ?_
  have hu := hr.units
  have hu1 := hr.units1
  have tk : Takes (cxOf (L2.CX P w) P w K mg base ["title", "under", "seats", "slips", "word", "voices", "slip", "votes", "who"] "_law_made" (defScope st_made) f cdv A outer s H E) (fun cls d _ H' => E cls d H') := takes_of rfl rfl rfl rfl
  exact ss_cons (s_set (i := 5) sc_made.nd rfl (.inl s_made_voices) (o_callTy co_list s_made_list Z.n_list b_list (l_cons (a_name (pe_var (i := 2) rfl (.inl s_made_seats))) (l_nil)))) (ss_cons (s_for (n := 9) (passes_of rfl) rfl (i_seq (d_name (pe_var (i := 3) rfl (.inl s_made_slips)))) (pg_name (i := 6) sc_made.nd rfl (.inl s_made_slip)) (g_name) (ss_one (s_expr (x_extend (pe_var (i := 5) rfl (.inl s_made_voices)) (d_of_o (o_callTy co_list s_made_list Z.n_list b_list (l_cons (a_of_d (d_ix (a_name (pe_var (i := 6) rfl (.inl s_made_slip))) (a_of_d (d_int)) (fun _ _ => rfl))) (l_nil)))))))) (ss_cons (s_set (i := 7) sc_made.nd rfl (.inl s_made_votes) (o_callTy co_tuple s_made_tuple Z.n_tuple b_tuple (l_cons (a_of_d (d_of_o (o_comp (n := 9) (own := [("who", 8)]) rfl sc_made.nd (i_seq (d_name (pe_var (i := 2) rfl (.inl s_made_seats)))) (blkOk_by (N := ["title", "under", "seats", "slips", "word", "voices", "slip", "votes", "who"]) (sc := defScope st_made) (own := [("who", 8)]) (by decide +kernel)) (fun _ _ _ _ _ => pg_name (i := 8) sc_made.nd rfl (.inl rfl)) (g_name) (fun _ _ _ _ _ => c_none) (fun _ _ _ _ _ => d_tup (l_cons (a_of_d (d_name (pe_var (i := 8) rfl (.inl rfl)))) (l_cons (a_of_d (d_name (pe_var (i := 4) rfl (.inr (.inl (blk_look (sc := defScope st_made) rfl (by decide +kernel))))))) (l_nil))))))) (l_nil)))) (ss_one (s_ret (o_of_d (d_tup (l_cons (a_of_d (d_name (pe_var (i := 0) rfl (.inl s_made_title)))) (l_cons (a_of_d (d_name (pe_var (i := 1) rfl (.inl s_made_under)))) (l_cons (a_of_d (d_name (pe_var (i := 2) rfl (.inl s_made_seats)))) (l_cons (a_of_d (d_of_o (o_callTy co_tuple s_made_tuple Z.n_tuple b_tuple (l_cons (a_of_d (d_of_o (o_sset rfl hu s_made_sorted Z.n_sorted s_made_set Z.n_set (l_cons (a_name (pe_var (i := 5) rfl (.inl s_made_voices))) (l_nil))))) (l_nil))))) (l_cons (a_of_d (d_of_o (o_callTy co_tuple s_made_tuple Z.n_tuple b_tuple (l_cons (a_of_d (d_of_o (o_call (co_sorted hu) s_made_sorted Z.n_sorted b_sorted (l_cons (a_name (pe_var (i := 3) rfl (.inl s_made_slips))) (l_nil))))) (l_nil))))) (l_cons (a_of_d (d_name (pe_var (i := 7) rfl (.inl s_made_votes)))) (l_cons (a_of_d (d_name (pe_var (i := 4) rfl (.inr (.inl s_made_word))))) (l_nil))))))))))))))
theorem ok_long {f : Addr} {fd : FuncData} (Z : Zs K mg f_all_standing d_all_standing f_readers_of d_readers_of f_all_resting d_all_resting f_rests_on d_rests_on f_all_known d_all_known f_is_turned d_is_turned f_shaken d_shaken f_source d_source f_draw d_draw f_some d_some f_pact d_pact f_folk d_folk f_titles d_titles f_slips d_slips f_votes d_votes f_case d_case f_cases d_cases f_find d_find f_stands d_stands f_own_is_turned d_own_is_turned f_rests d_rests f_own_shaken d_own_shaken f_rumour d_rumour f_made d_made f_long d_long T_shaken_news V_VERDICTS U_VERDICTS) (F0 : Fun K "_law_long" "_law_long" st_long f fd) (F_made : FnG P w K mg base (L2.CX P w) 1 f_made d_made ["title", "under", "seats", "slips", "word"] (spI K w mg XR 5 Lw.fn_made)) : FnG P w K mg base (L2.CX P w) 2 f fd ["more", "word"] (spI K w mg XR 2 Lw.fn_long) := by
  refine okI (N := ["more", "word", "found", "k", "heard_of", "slips", "j"]) (ps := ["more", "word"]) (k := 1) (body := Lw.m_long) [false, false] F0 sc_long rfl (by decide) fun cdv A outer s H E hg hr => ?_
  have hu := hr.units
  have hu1 := hr.units1
  have tk : Takes (cxOf (L2.CX P w) P w K mg base ["more", "word", "found", "k", "heard_of", "slips", "j"] "_law_long" (defScope st_long) f cdv A outer s H E) (fun cls d _ H' => E cls d H') := takes_of rfl rfl rfl rfl
  exact ss_cons (s_set (i := 2) sc_long.nd rfl (.inl s_long_found) (o_lst (l_cons (a_of_d (d_of_o (o_fn F_made hg (hr.mono (by decide)) s_long__law_made Z.g_made Z.k_made Z.b_made tk (l_cons (a_of_d (d_tup (l_cons (a_of_d (d_str)) (l_cons (a_of_d (d_int)) (l_cons (a_of_d (d_int)) (l_nil)))))) (l_cons (a_of_d (d_none)) (l_cons (a_of_d (d_tup (l_cons (a_of_d (d_tup (l_cons (a_of_d (d_str)) (l_cons (a_of_d (d_str)) (l_nil))))) (l_cons (a_of_d (d_tup (l_cons (a_of_d (d_str)) (l_cons (a_of_d (d_str)) (l_nil))))) (l_nil))))) (l_cons (a_of_d (d_tup (l_nil))) (l_cons (a_of_d (d_str)) (l_nil)))))) rfl (ll_cons (ll_cons (ll_cons (ll_cons (ll_cons (ll_nil))))))))) (l_nil)))) (ss_cons (s_for (n := 7) (passes_of rfl) rfl (i_range2 s_long_range Z.n_range (l_cons (a_of_d (d_int)) (l_cons (a_of_d (d_int)) (l_nil)))) (pg_name (i := 3) sc_long.nd rfl (.inr s_long_k)) (g_name) (ss_cons (s_set (i := 4) sc_long.nd rfl (.inl s_long_heard_of) (o_op ao_add (a_of_d (d_of_o (o_lst (l_cons (a_of_d (d_op od_sub (a_name (pe_var (i := 3) rfl (.inr (.inl s_long_k)))) (a_of_d (d_int)))) (l_nil))))) (a_of_d (d_of_o (o_op ao_mulT (a_name (pe_var (i := 0) rfl (.inl s_long_more))) (a_of_d (d_of_o (o_callTy co_int s_long_int Z.n_int b_int (l_cons (a_of_d (d_cmp (od_eq hu) (a_name (pe_var (i := 3) rfl (.inr (.inl s_long_k)))) (a_of_d (d_int)))) (l_nil)))))))))) (ss_cons (s_setC (n := 7) (own := [("j", 6)]) (i := 5) rfl sc_long.nd rfl s_long_slips (sw_true rfl s_long_slips rfl rfl) (i_seq (d_name (pe_var (i := 4) rfl (.inl s_long_heard_of)))) (blkOk_by (N := ["more", "word", "found", "k", "heard_of", "slips", "j"]) (sc := defScope st_long) (own := [("j", 6)]) (by decide +kernel)) (fun _ _ _ _ _ => pg_name (i := 6) sc_long.nd rfl (.inl rfl)) (g_name) (fun _ _ _ _ _ => c_none) (fun _ _ _ _ _ => d_tup (l_cons (a_of_d (d_tup (l_cons (a_of_d (d_str)) (l_cons (a_of_d (d_int)) (l_cons (a_of_d (d_name (pe_var (i := 6) rfl (.inl rfl)))) (l_nil)))))) (l_cons (a_of_d (d_tup (l_cons (a_of_d (d_tup (l_cons (a_of_d (d_str)) (l_cons (a_of_d (d_str)) (l_nil))))) (l_nil)))) (l_cons (a_of_d (d_if (t_cmp (od_eq hu) (a_name (pe_var (i := 3) rfl (.inr (.inl (blk_look (sc := defScope st_long) rfl (by decide +kernel)))))) (a_of_d (d_int))) (d_name (pe_var (i := 1) rfl (.inr (.inl (blk_look (sc := defScope st_long) rfl (by decide +kernel)))))) (d_str))) (l_nil)))))) (ss_one (s_expr (x_append (pe_var (i := 2) rfl (.inl s_long_found)) (d_of_o (o_fn F_made hg (hr.mono (by decide)) s_long__law_made Z.g_made Z.k_made Z.b_made tk (l_cons (a_of_d (d_tup (l_cons (a_of_d (d_str)) (l_cons (a_of_d (d_int)) (l_cons (a_of_d (d_name (pe_var (i := 3) rfl (.inr (.inl s_long_k))))) (l_nil)))))) (l_cons (a_of_d (d_none)) (l_cons (a_of_d (d_tup (l_cons (a_of_d (d_tup (l_cons (a_of_d (d_str)) (l_cons (a_of_d (d_str)) (l_nil))))) (l_cons (a_of_d (d_tup (l_cons (a_of_d (d_str)) (l_cons (a_of_d (d_str)) (l_nil))))) (l_nil))))) (l_cons (a_of_d (d_name (pe_var (i := 5) rfl (.inl s_long_slips)))) (l_cons (a_of_d (d_str)) (l_nil)))))) rfl (ll_cons (ll_cons (ll_cons (ll_cons (ll_cons (ll_nil)))))))))))))) (ss_one (s_ret (o_callTy co_tuple s_long_tuple Z.n_tuple b_tuple (l_cons (a_name (pe_var (i := 2) rfl (.inl s_long_found))) (l_nil))))))
theorem ok_law {f : Addr} {fd : FuncData} (Z : Zs K mg f_all_standing d_all_standing f_readers_of d_readers_of f_all_resting d_all_resting f_rests_on d_rests_on f_all_known d_all_known f_is_turned d_is_turned f_shaken d_shaken f_source d_source f_draw d_draw f_some d_some f_pact d_pact f_folk d_folk f_titles d_titles f_slips d_slips f_votes d_votes f_case d_case f_cases d_cases f_find d_find f_stands d_stands f_own_is_turned d_own_is_turned f_rests d_rests f_own_shaken d_own_shaken f_rumour d_rumour f_made d_made f_long d_long T_shaken_news V_VERDICTS U_VERDICTS) (F0 : Fun K "law" "law" st_law f fd) (F_source : FnG P w K mg base (L2.CX P w) 1 f_source d_source ["script"] (spI K w mg XR 1 Lw.fn_source)) (F_cases : FnG P w K mg base (L2.CX P w) 5 f_cases d_cases ["feed", "pact"] (spI K w mg XR 2 Lw.fn_cases)) (F_pact : FnG P w K mg base (L2.CX P w) 2 f_pact d_pact ["feed"] (spI K w mg XR 1 Lw.fn_pact)) (F_long : FnG P w K mg base (L2.CX P w) 2 f_long d_long ["more", "word"] (spI K w mg XR 2 Lw.fn_long)) (F_rumour : FnG P w K mg base (L2.CX P w) 3 f_rumour d_rumour ["feed", "titles"] (spI K w mg XR 2 Lw.fn_rumour)) (F_rests : FnG P w K mg base (L2.CX P w) 1 f_rests d_rests ["cases", "titles"] (spI K w mg XR 2 Lw.fn_rests)) (F_rests_on : FnG P w K mg base (L2.CX P w) 3 f_rests_on d_rests_on ["matters", "name"] (spI K w mg XR 2 Lw.fn_rests_on)) (F_own_shaken : FnG P w K mg base (L2.CX P w) 19 f_own_shaken d_own_shaken ["cases", "rumour"] (spI K w mg XR 2 Lw.fn_own_shaken)) (F_shaken : FnG P w K mg base (L2.CX P w) 3 f_shaken d_shaken ["matters", "news"] (spI K w mg XR 2 Lw.fn_shaken)) : FnG P w K mg base (L2.CX P w) 20 f fd ["script"] (spI K w mg XR 1 Lw.fn_law_k41) := by
  refine okI (N := ["script", "feed", "turn", "cases", "titles", "rumour", "kept", "title", "due", "bare", "told", "one"]) (ps := ["script"]) (k := 19) (body := Lw.m_law_k41) [false] F0 sc_law rfl (by decide) fun cdv A outer s H E hg hr => ?_
  have hu := hr.units
  have hu1 := hr.units1
  have tk : Takes (cxOf (L2.CX P w) P w K mg base ["script", "feed", "turn", "cases", "titles", "rumour", "kept", "title", "due", "bare", "told", "one"] "law" (defScope st_law) f cdv A outer s H E) (fun cls d _ H' => E cls d H') := takes_of rfl rfl rfl rfl
  exact ss_cons (s_set (i := 1) sc_law.nd rfl (.inl s_law_feed) (o_fn F_source hg (hr.mono (by decide)) s_law__law_source Z.g_source Z.k_source Z.b_source tk (l_cons (a_name (pe_var (i := 0) rfl (.inl s_law_script))) (l_nil)) rfl (ll_cons (ll_nil)))) (ss_cons (s_for (n := 12) (passes_of rfl) rfl (i_range1 s_law_range Z.n_range (l_cons (a_of_d (d_int)) (l_nil))) (pg_name (i := 2) sc_law.nd rfl (.inl s_law_turn)) (g_name) (ss_cons (s_set (i := 3) sc_law.nd rfl (.inl s_law_cases) (o_if (t_cmp (od_gt hu) (a_name (pe_var (i := 2) rfl (.inl s_law_turn))) (a_of_d (d_int))) (o_fnO F_cases hg (hr.mono (by decide)) s_law__law_cases Z.g_cases Z.k_cases Z.b_cases tk (l_cons (a_name (pe_var (i := 1) rfl (.inl s_law_feed))) (l_cons (a_of_d (d_of_o (o_fnO F_pact hg (hr.mono (by decide)) s_law__law_pact Z.g_pact Z.k_pact Z.b_pact tk (l_cons (a_name (pe_var (i := 1) rfl (.inl s_law_feed))) (l_nil)) rfl (ll_cons (ll_nil))))) (l_nil))) rfl (ll_cons (ll_cons (ll_nil)))) (o_fn F_long hg (hr.mono (by decide)) s_law__law_long Z.g_long Z.k_long Z.b_long tk (l_cons (a_of_d (d_of_o (o_lst (l_cons (a_of_d (d_int)) (l_cons (a_of_d (d_int)) (l_cons (a_of_d (d_int)) (l_cons (a_of_d (d_int)) (l_nil)))))))) (l_cons (a_of_d (d_str)) (l_nil))) rfl (ll_cons (ll_cons (ll_nil)))))) (ss_cons (s_setC (n := 12) (own := [("one", 11)]) (i := 4) rfl sc_law.nd rfl s_law_titles (sw_true rfl s_law_titles rfl rfl) (i_seq (d_name (pe_var (i := 3) rfl (.inl s_law_cases)))) (blkOk_by (N := ["script", "feed", "turn", "cases", "titles", "rumour", "kept", "title", "due", "bare", "told", "one"]) (sc := defScope st_law) (own := [("one", 11)]) (by decide +kernel)) (fun _ _ _ _ _ => pg_name (i := 11) sc_law.nd rfl (.inl rfl)) (g_name) (fun _ _ _ _ _ => c_none) (fun _ _ _ _ _ => d_ix (a_name (pe_var (i := 11) rfl (.inl rfl))) (a_of_d (d_int)) (fun _ _ => rfl))) (ss_cons (s_set (i := 5) sc_law.nd rfl (.inl s_law_rumour) (o_fnO F_rumour hg (hr.mono (by decide)) s_law__law_rumour Z.g_rumour Z.k_rumour Z.b_rumour tk (l_cons (a_name (pe_var (i := 1) rfl (.inl s_law_feed))) (l_cons (a_of_d (d_name (pe_var (i := 4) rfl (.inl s_law_titles)))) (l_nil))) rfl (ll_cons (ll_cons (ll_nil))))) (ss_cons (s_set (i := 6) sc_law.nd rfl (.inl s_law_kept) (o_call (co_repr hg hu) s_law_repr Z.n_repr b_repr (l_cons (a_of_d (d_tup (l_cons (a_of_d (d_name (pe_var (i := 3) rfl (.inl s_law_cases)))) (l_cons (a_of_d (d_name (pe_var (i := 5) rfl (.inl s_law_rumour)))) (l_nil))))) (l_nil)))) (ss_cons (s_for (n := 12) (passes_of rfl) rfl (i_seq (d_of_o (o_op ao_add (a_name (pe_var (i := 4) rfl (.inl s_law_titles))) (a_of_d (d_of_o (o_lst (l_cons (a_of_d (d_tup (l_cons (a_of_d (d_str)) (l_cons (a_of_d (d_int)) (l_cons (a_of_d (d_int)) (l_nil)))))) (l_cons (a_of_d (d_tup (l_cons (a_of_d (d_str)) (l_cons (a_of_d (d_int)) (l_cons (a_of_d (d_int)) (l_nil)))))) (l_cons (a_of_d (d_tup (l_cons (a_of_d (d_str)) (l_cons (a_of_d (d_int)) (l_cons (a_of_d (d_int)) (l_nil)))))) (l_nil)))))))))) (pg_name (i := 7) sc_law.nd rfl (.inl s_law_title)) (g_name) (ss_cons (s_set (i := 8) sc_law.nd rfl (.inl s_law_due) (o_fn F_rests hg (hr.mono (by decide)) s_law__law_rests Z.g_rests Z.k_rests Z.b_rests tk (l_cons (a_of_d (d_name (pe_var (i := 3) rfl (.inl s_law_cases)))) (l_cons (a_of_d (d_of_o (o_lst (l_cons (a_of_d (d_name (pe_var (i := 7) rfl (.inl s_law_title)))) (l_nil))))) (l_nil))) rfl (ll_cons (ll_cons (ll_nil))))) (ss_one (s_if (t_cmp (od_ne hu) (a_of_d (d_of_o (o_call (co_repr hg hu) s_law_repr Z.n_repr b_repr (l_cons (a_of_d (d_of_o (o_lst (l_cons (a_of_d (d_of_o (o_fn F_rests_on hg (hr.mono (by decide)) s_law_rests_on Z.g_rests_on Z.k_rests_on Z.b_rests_on tk (l_cons (a_of_d (d_name (pe_var (i := 3) rfl (.inl s_law_cases)))) (l_cons (a_of_d (d_name (pe_var (i := 7) rfl (.inl s_law_title)))) (l_nil))) rfl (ll_cons (ll_cons (ll_nil)))))) (l_cons (a_of_d (d_of_o (o_fnP0 (n2 := 2) F_rests_on hg (hr.mono (by decide)) s_law_rests_on Z.g_rests_on Z.k_rests_on Z.p_rests_on_0_name_matters Z.q_rests_on_0_name_matters rfl rfl tk (k_cons (a_of_d (d_name (pe_var (i := 7) rfl (.inl s_law_title)))) (k_cons (a_of_d (d_name (pe_var (i := 3) rfl (.inl s_law_cases)))) (k_nil))) (ll_cons (ll_cons (ll_nil)))))) (l_nil)))))) (l_nil))))) (a_of_d (d_of_o (o_call (co_repr hg hu) s_law_repr Z.n_repr b_repr (l_cons (a_of_d (d_of_o (o_lst (l_cons (a_of_d (d_name (pe_var (i := 8) rfl (.inl s_law_due)))) (l_cons (a_of_d (d_name (pe_var (i := 8) rfl (.inl s_law_due)))) (l_nil)))))) (l_nil)))))) (ss_one (s_ret (o_of_d (d_bool)))) (ss_nil))))) (ss_cons (s_par rfl sc_law.nd rfl rfl s_law_due s_law_bare (o_fn F_own_shaken hg (hr.mono (by decide)) s_law__law_shaken Z.g_own_shaken Z.k_own_shaken Z.b_own_shaken tk (l_cons (a_of_d (d_name (pe_var (i := 3) rfl (.inl s_law_cases)))) (l_cons (a_of_d (d_name (pe_var (i := 5) rfl (.inl s_law_rumour)))) (l_nil))) rfl (ll_cons (ll_cons (ll_nil)))) (o_fn F_own_shaken hg (hr.mono (by decide)) s_law__law_shaken Z.g_own_shaken Z.k_own_shaken Z.b_own_shaken tk (l_cons (a_of_d (d_name (pe_var (i := 3) rfl (.inl s_law_cases)))) (l_cons (a_of_d (d_tup (l_nil))) (l_nil))) rfl (ll_cons (ll_cons (ll_nil))))) (ss_cons (s_set (i := 10) sc_law.nd rfl (.inl s_law_told) (o_lst (l_cons (a_of_d (d_of_o (o_fnK (n1 := 1) (n2 := 1) F_shaken hg (hr.mono (by decide)) s_law_shaken Z.g_shaken Z.k_shaken Z.b_shaken tk (l_cons (a_of_d (d_name (pe_var (i := 3) rfl (.inl s_law_cases)))) (l_nil)) (k_cons (a_of_d (d_name (pe_var (i := 5) rfl (.inl s_law_rumour)))) (k_nil)) (ll_cons (ll_nil)) (ll_cons (ll_nil))))) (l_cons (a_of_d (d_of_o (o_fnP0 (n2 := 2) F_shaken hg (hr.mono (by decide)) s_law_shaken Z.g_shaken Z.k_shaken Z.p_shaken_0_news_matters Z.q_shaken_0_news_matters rfl rfl tk (k_cons (a_of_d (d_name (pe_var (i := 5) rfl (.inl s_law_rumour)))) (k_cons (a_of_d (d_name (pe_var (i := 3) rfl (.inl s_law_cases)))) (k_nil))) (ll_cons (ll_cons (ll_nil)))))) (l_cons (a_of_d (d_of_o (o_fnP (n1 := 1) (n2 := 0) F_shaken hg (hr.mono (by decide)) s_law_shaken Z.g_shaken Z.k_shaken Z.p_shaken_1_ Z.q_shaken_1_ rfl rfl tk (l_cons (a_of_d (d_name (pe_var (i := 3) rfl (.inl s_law_cases)))) (l_nil)) (k_nil) (ll_cons (ll_nil)) (ll_nil)))) (l_cons (a_of_d (d_of_o (o_fnK (n1 := 1) (n2 := 1) F_shaken hg (hr.mono (by decide)) s_law_shaken Z.g_shaken Z.k_shaken Z.b_shaken tk (l_cons (a_of_d (d_name (pe_var (i := 3) rfl (.inl s_law_cases)))) (l_nil)) (k_cons (a_of_d (d_tup (l_nil))) (k_nil)) (ll_cons (ll_nil)) (ll_cons (ll_nil))))) (l_nil))))))) (ss_one (s_if (t_w (w_or (t_cmp (od_ne hu) (a_of_d (d_of_o (o_call (co_repr hg hu) s_law_repr Z.n_repr b_repr (l_cons (a_name (pe_var (i := 10) rfl (.inl s_law_told))) (l_nil))))) (a_of_d (d_of_o (o_call (co_repr hg hu) s_law_repr Z.n_repr b_repr (l_cons (a_of_d (d_of_o (o_lst (l_cons (a_of_d (d_name (pe_var (i := 8) rfl (.inl s_law_due)))) (l_cons (a_of_d (d_name (pe_var (i := 8) rfl (.inl s_law_due)))) (l_cons (a_of_d (d_name (pe_var (i := 9) rfl (.inl s_law_bare)))) (l_cons (a_of_d (d_name (pe_var (i := 9) rfl (.inl s_law_bare)))) (l_nil)))))))) (l_nil)))))) (w_one2 (t_cmp (od_ne hu) (a_of_d (d_of_o (o_call (co_repr hg hu) s_law_repr Z.n_repr b_repr (l_cons (a_of_d (d_tup (l_cons (a_of_d (d_name (pe_var (i := 3) rfl (.inl s_law_cases)))) (l_cons (a_of_d (d_name (pe_var (i := 5) rfl (.inl s_law_rumour)))) (l_nil))))) (l_nil))))) (a_name (pe_var (i := 6) rfl (.inl s_law_kept))))))) (ss_one (s_ret (o_of_d (d_bool)))) (ss_nil))))))))))) (ss_one (s_ret (o_of_d (d_bool)))))
end
theorem all_in {l : PySem.W.OpenLaw} {w : World} {K : PySem.W.Frag} {h : Heap} {mg : Str → Option Value} {fa p_s0 p_s1 p_s2 p_s3 p_s4 p_s5 p_s6 p_s7 p_s8 p_s9 p_s10 p_s11 p_s12 p_s13 p_s14 p_s15 p_s16 p_s17 p_s18 p_s19 p_s20 p_s21 p_s22 p_s23 p_s24 p_s25 : Addr} {XR : Hp → Hp → Value → Option Addr → Xc → Prop} (X : K.In h) (G : h.Ns mainGlobals mg) (hfa : mg "law" = some (.ref fa))
    {od_s0 an_s0 : Option Addr} {sl_s0 : Array (Option Value)} {oc_s0 kV_s0 dc_s0 pm_s0 cd_s0 ct_s0 : Value} (a_s0 : PySem.W.nsIn K mainGlobals "all_standing" = some (some (.ref p_s0)))
    (l_s0 : K.lookup p_s0 = some ⟨oc_s0, od_s0, .func (PySem.W.fnOf "all_standing" "all_standing" (defArgs st_all_standing) (defBody st_all_standing) (defScope st_all_standing) .none kV_s0 dc_s0 pm_s0 an_s0 cd_s0 ct_s0), sl_s0⟩) (c_s0 : PySem.W.codeIn K cd_s0 "all_standing" = true) (k_s0 : PySem.W.keepIn K (.ref p_s0) = true)
    {od_s1 an_s1 : Option Addr} {sl_s1 : Array (Option Value)} {oc_s1 kV_s1 dc_s1 pm_s1 cd_s1 ct_s1 : Value} (a_s1 : PySem.W.nsIn K mainGlobals "readers_of" = some (some (.ref p_s1)))
    (l_s1 : K.lookup p_s1 = some ⟨oc_s1, od_s1, .func (PySem.W.fnOf "readers_of" "readers_of" (defArgs st_readers_of) (defBody st_readers_of) (defScope st_readers_of) .none kV_s1 dc_s1 pm_s1 an_s1 cd_s1 ct_s1), sl_s1⟩) (c_s1 : PySem.W.codeIn K cd_s1 "readers_of" = true) (k_s1 : PySem.W.keepIn K (.ref p_s1) = true)
    {od_s2 an_s2 : Option Addr} {sl_s2 : Array (Option Value)} {oc_s2 kV_s2 dc_s2 pm_s2 cd_s2 ct_s2 : Value} (a_s2 : PySem.W.nsIn K mainGlobals "all_resting" = some (some (.ref p_s2)))
    (l_s2 : K.lookup p_s2 = some ⟨oc_s2, od_s2, .func (PySem.W.fnOf "all_resting" "all_resting" (defArgs st_all_resting) (defBody st_all_resting) (defScope st_all_resting) .none kV_s2 dc_s2 pm_s2 an_s2 cd_s2 ct_s2), sl_s2⟩) (c_s2 : PySem.W.codeIn K cd_s2 "all_resting" = true) (k_s2 : PySem.W.keepIn K (.ref p_s2) = true)
    {od_s3 an_s3 : Option Addr} {sl_s3 : Array (Option Value)} {oc_s3 kV_s3 dc_s3 pm_s3 cd_s3 ct_s3 : Value} (a_s3 : PySem.W.nsIn K mainGlobals "rests_on" = some (some (.ref p_s3)))
    (l_s3 : K.lookup p_s3 = some ⟨oc_s3, od_s3, .func (PySem.W.fnOf "rests_on" "rests_on" (defArgs st_rests_on) (defBody st_rests_on) (defScope st_rests_on) .none kV_s3 dc_s3 pm_s3 an_s3 cd_s3 ct_s3), sl_s3⟩) (c_s3 : PySem.W.codeIn K cd_s3 "rests_on" = true) (k_s3 : PySem.W.keepIn K (.ref p_s3) = true)
    {od_s4 an_s4 : Option Addr} {sl_s4 : Array (Option Value)} {oc_s4 kV_s4 dc_s4 pm_s4 cd_s4 ct_s4 : Value} (a_s4 : PySem.W.nsIn K mainGlobals "all_known" = some (some (.ref p_s4)))
    (l_s4 : K.lookup p_s4 = some ⟨oc_s4, od_s4, .func (PySem.W.fnOf "all_known" "all_known" (defArgs st_all_known) (defBody st_all_known) (defScope st_all_known) .none kV_s4 dc_s4 pm_s4 an_s4 cd_s4 ct_s4), sl_s4⟩) (c_s4 : PySem.W.codeIn K cd_s4 "all_known" = true) (k_s4 : PySem.W.keepIn K (.ref p_s4) = true)
    {od_s5 an_s5 : Option Addr} {sl_s5 : Array (Option Value)} {oc_s5 kV_s5 dc_s5 pm_s5 cd_s5 ct_s5 : Value} (a_s5 : PySem.W.nsIn K mainGlobals "is_turned" = some (some (.ref p_s5)))
    (l_s5 : K.lookup p_s5 = some ⟨oc_s5, od_s5, .func (PySem.W.fnOf "is_turned" "is_turned" (defArgs st_is_turned) (defBody st_is_turned) (defScope st_is_turned) .none kV_s5 dc_s5 pm_s5 an_s5 cd_s5 ct_s5), sl_s5⟩) (c_s5 : PySem.W.codeIn K cd_s5 "is_turned" = true) (k_s5 : PySem.W.keepIn K (.ref p_s5) = true)
    {od_s6 an_s6 : Option Addr} {sl_s6 : Array (Option Value)} {oc_s6 dc_s6 pm_s6 cd_s6 ct_s6 : Value} (a_s6 : PySem.W.nsIn K mainGlobals "shaken" = some (some (.ref p_s6)))
    {D_s6 : Addr} {T_shaken_news : Addr} {o_T_shaken_news : Option Addr} {n_T_shaken_news : Nat} {sl_T_shaken_news : Array (Option Value)}
    (l_s6 : K.lookup p_s6 = some ⟨oc_s6, od_s6, .func (PySem.W.fnOf "shaken" "shaken" (defArgs st_shaken) (defBody st_shaken) (defScope st_shaken) .none (.ref D_s6) dc_s6 pm_s6 an_s6 cd_s6 ct_s6), sl_s6⟩) (c_s6 : PySem.W.codeIn K cd_s6 "shaken" = true) (k_s6 : PySem.W.keepIn K (.ref p_s6) = true)
    (e_T_shaken_news : PySem.W.nsIn K D_s6 "news" = some (some (.ref T_shaken_news)))
    (w_T_shaken_news : K.lookup T_shaken_news = some ⟨.type "tuple", o_T_shaken_news, .seq #[] n_T_shaken_news, sl_T_shaken_news⟩)
    {od_s7 an_s7 : Option Addr} {sl_s7 : Array (Option Value)} {oc_s7 kV_s7 dc_s7 pm_s7 cd_s7 ct_s7 : Value} (a_s7 : PySem.W.nsIn K mainGlobals "_law_source" = some (some (.ref p_s7)))
    (l_s7 : K.lookup p_s7 = some ⟨oc_s7, od_s7, .func (PySem.W.fnOf "_law_source" "_law_source" (defArgs st_source) (defBody st_source) (defScope st_source) .none kV_s7 dc_s7 pm_s7 an_s7 cd_s7 ct_s7), sl_s7⟩) (c_s7 : PySem.W.codeIn K cd_s7 "_law_source" = true) (k_s7 : PySem.W.keepIn K (.ref p_s7) = true)
    {od_s8 an_s8 : Option Addr} {sl_s8 : Array (Option Value)} {oc_s8 kV_s8 dc_s8 pm_s8 cd_s8 ct_s8 : Value} (a_s8 : PySem.W.nsIn K mainGlobals "_law_draw" = some (some (.ref p_s8)))
    (l_s8 : K.lookup p_s8 = some ⟨oc_s8, od_s8, .func (PySem.W.fnOf "_law_draw" "_law_draw" (defArgs st_draw) (defBody st_draw) (defScope st_draw) .none kV_s8 dc_s8 pm_s8 an_s8 cd_s8 ct_s8), sl_s8⟩) (c_s8 : PySem.W.codeIn K cd_s8 "_law_draw" = true) (k_s8 : PySem.W.keepIn K (.ref p_s8) = true)
    {od_s9 an_s9 : Option Addr} {sl_s9 : Array (Option Value)} {oc_s9 kV_s9 dc_s9 pm_s9 cd_s9 ct_s9 : Value} (a_s9 : PySem.W.nsIn K mainGlobals "_law_some" = some (some (.ref p_s9)))
    (l_s9 : K.lookup p_s9 = some ⟨oc_s9, od_s9, .func (PySem.W.fnOf "_law_some" "_law_some" (defArgs st_some) (defBody st_some) (defScope st_some) .none kV_s9 dc_s9 pm_s9 an_s9 cd_s9 ct_s9), sl_s9⟩) (c_s9 : PySem.W.codeIn K cd_s9 "_law_some" = true) (k_s9 : PySem.W.keepIn K (.ref p_s9) = true)
    {od_s10 an_s10 : Option Addr} {sl_s10 : Array (Option Value)} {oc_s10 kV_s10 dc_s10 pm_s10 cd_s10 ct_s10 : Value} (a_s10 : PySem.W.nsIn K mainGlobals "_law_pact" = some (some (.ref p_s10)))
    (l_s10 : K.lookup p_s10 = some ⟨oc_s10, od_s10, .func (PySem.W.fnOf "_law_pact" "_law_pact" (defArgs st_pact) (defBody st_pact) (defScope st_pact) .none kV_s10 dc_s10 pm_s10 an_s10 cd_s10 ct_s10), sl_s10⟩) (c_s10 : PySem.W.codeIn K cd_s10 "_law_pact" = true) (k_s10 : PySem.W.keepIn K (.ref p_s10) = true)
    {od_s11 an_s11 : Option Addr} {sl_s11 : Array (Option Value)} {oc_s11 kV_s11 dc_s11 pm_s11 cd_s11 ct_s11 : Value} (a_s11 : PySem.W.nsIn K mainGlobals "_law_folk" = some (some (.ref p_s11)))
    (l_s11 : K.lookup p_s11 = some ⟨oc_s11, od_s11, .func (PySem.W.fnOf "_law_folk" "_law_folk" (defArgs st_folk) (defBody st_folk) (defScope st_folk) .none kV_s11 dc_s11 pm_s11 an_s11 cd_s11 ct_s11), sl_s11⟩) (c_s11 : PySem.W.codeIn K cd_s11 "_law_folk" = true) (k_s11 : PySem.W.keepIn K (.ref p_s11) = true)
    {od_s12 an_s12 : Option Addr} {sl_s12 : Array (Option Value)} {oc_s12 kV_s12 dc_s12 pm_s12 cd_s12 ct_s12 : Value} (a_s12 : PySem.W.nsIn K mainGlobals "_law_titles" = some (some (.ref p_s12)))
    (l_s12 : K.lookup p_s12 = some ⟨oc_s12, od_s12, .func (PySem.W.fnOf "_law_titles" "_law_titles" (defArgs st_titles) (defBody st_titles) (defScope st_titles) .none kV_s12 dc_s12 pm_s12 an_s12 cd_s12 ct_s12), sl_s12⟩) (c_s12 : PySem.W.codeIn K cd_s12 "_law_titles" = true) (k_s12 : PySem.W.keepIn K (.ref p_s12) = true)
    {od_s13 an_s13 : Option Addr} {sl_s13 : Array (Option Value)} {oc_s13 kV_s13 dc_s13 pm_s13 cd_s13 ct_s13 : Value} (a_s13 : PySem.W.nsIn K mainGlobals "_law_slips" = some (some (.ref p_s13)))
    (l_s13 : K.lookup p_s13 = some ⟨oc_s13, od_s13, .func (PySem.W.fnOf "_law_slips" "_law_slips" (defArgs st_slips) (defBody st_slips) (defScope st_slips) .none kV_s13 dc_s13 pm_s13 an_s13 cd_s13 ct_s13), sl_s13⟩) (c_s13 : PySem.W.codeIn K cd_s13 "_law_slips" = true) (k_s13 : PySem.W.keepIn K (.ref p_s13) = true)
    {od_s14 an_s14 : Option Addr} {sl_s14 : Array (Option Value)} {oc_s14 kV_s14 dc_s14 pm_s14 cd_s14 ct_s14 : Value} (a_s14 : PySem.W.nsIn K mainGlobals "_law_votes" = some (some (.ref p_s14)))
    (l_s14 : K.lookup p_s14 = some ⟨oc_s14, od_s14, .func (PySem.W.fnOf "_law_votes" "_law_votes" (defArgs st_votes) (defBody st_votes) (defScope st_votes) .none kV_s14 dc_s14 pm_s14 an_s14 cd_s14 ct_s14), sl_s14⟩) (c_s14 : PySem.W.codeIn K cd_s14 "_law_votes" = true) (k_s14 : PySem.W.keepIn K (.ref p_s14) = true)
    {od_s15 an_s15 : Option Addr} {sl_s15 : Array (Option Value)} {oc_s15 kV_s15 dc_s15 pm_s15 cd_s15 ct_s15 : Value} (a_s15 : PySem.W.nsIn K mainGlobals "_law_case" = some (some (.ref p_s15)))
    (l_s15 : K.lookup p_s15 = some ⟨oc_s15, od_s15, .func (PySem.W.fnOf "_law_case" "_law_case" (defArgs st_case) (defBody st_case) (defScope st_case) .none kV_s15 dc_s15 pm_s15 an_s15 cd_s15 ct_s15), sl_s15⟩) (c_s15 : PySem.W.codeIn K cd_s15 "_law_case" = true) (k_s15 : PySem.W.keepIn K (.ref p_s15) = true)
    {od_s16 an_s16 : Option Addr} {sl_s16 : Array (Option Value)} {oc_s16 kV_s16 dc_s16 pm_s16 cd_s16 ct_s16 : Value} (a_s16 : PySem.W.nsIn K mainGlobals "_law_cases" = some (some (.ref p_s16)))
    (l_s16 : K.lookup p_s16 = some ⟨oc_s16, od_s16, .func (PySem.W.fnOf "_law_cases" "_law_cases" (defArgs st_cases) (defBody st_cases) (defScope st_cases) .none kV_s16 dc_s16 pm_s16 an_s16 cd_s16 ct_s16), sl_s16⟩) (c_s16 : PySem.W.codeIn K cd_s16 "_law_cases" = true) (k_s16 : PySem.W.keepIn K (.ref p_s16) = true)
    {od_s17 an_s17 : Option Addr} {sl_s17 : Array (Option Value)} {oc_s17 kV_s17 dc_s17 pm_s17 cd_s17 ct_s17 : Value} (a_s17 : PySem.W.nsIn K mainGlobals "_law_find" = some (some (.ref p_s17)))
    (l_s17 : K.lookup p_s17 = some ⟨oc_s17, od_s17, .func (PySem.W.fnOf "_law_find" "_law_find" (defArgs st_find) (defBody st_find) (defScope st_find) .none kV_s17 dc_s17 pm_s17 an_s17 cd_s17 ct_s17), sl_s17⟩) (c_s17 : PySem.W.codeIn K cd_s17 "_law_find" = true) (k_s17 : PySem.W.keepIn K (.ref p_s17) = true)
    {od_s18 an_s18 : Option Addr} {sl_s18 : Array (Option Value)} {oc_s18 kV_s18 dc_s18 pm_s18 cd_s18 ct_s18 : Value} (a_s18 : PySem.W.nsIn K mainGlobals "_law_stands" = some (some (.ref p_s18)))
    (l_s18 : K.lookup p_s18 = some ⟨oc_s18, od_s18, .func (PySem.W.fnOf "_law_stands" "_law_stands" (defArgs st_stands) (defBody st_stands) (defScope st_stands) .none kV_s18 dc_s18 pm_s18 an_s18 cd_s18 ct_s18), sl_s18⟩) (c_s18 : PySem.W.codeIn K cd_s18 "_law_stands" = true) (k_s18 : PySem.W.keepIn K (.ref p_s18) = true)
    {od_s19 an_s19 : Option Addr} {sl_s19 : Array (Option Value)} {oc_s19 kV_s19 dc_s19 pm_s19 cd_s19 ct_s19 : Value} (a_s19 : PySem.W.nsIn K mainGlobals "_law_is_turned" = some (some (.ref p_s19)))
    (l_s19 : K.lookup p_s19 = some ⟨oc_s19, od_s19, .func (PySem.W.fnOf "_law_is_turned" "_law_is_turned" (defArgs st_own_is_turned) (defBody st_own_is_turned) (defScope st_own_is_turned) .none kV_s19 dc_s19 pm_s19 an_s19 cd_s19 ct_s19), sl_s19⟩) (c_s19 : PySem.W.codeIn K cd_s19 "_law_is_turned" = true) (k_s19 : PySem.W.keepIn K (.ref p_s19) = true)
    {od_s20 an_s20 : Option Addr} {sl_s20 : Array (Option Value)} {oc_s20 kV_s20 dc_s20 pm_s20 cd_s20 ct_s20 : Value} (a_s20 : PySem.W.nsIn K mainGlobals "_law_rests" = some (some (.ref p_s20)))
    (l_s20 : K.lookup p_s20 = some ⟨oc_s20, od_s20, .func (PySem.W.fnOf "_law_rests" "_law_rests" (defArgs st_rests) (defBody st_rests) (defScope st_rests) .none kV_s20 dc_s20 pm_s20 an_s20 cd_s20 ct_s20), sl_s20⟩) (c_s20 : PySem.W.codeIn K cd_s20 "_law_rests" = true) (k_s20 : PySem.W.keepIn K (.ref p_s20) = true)
    {od_s21 an_s21 : Option Addr} {sl_s21 : Array (Option Value)} {oc_s21 kV_s21 dc_s21 pm_s21 cd_s21 ct_s21 : Value} (a_s21 : PySem.W.nsIn K mainGlobals "_law_shaken" = some (some (.ref p_s21)))
    (l_s21 : K.lookup p_s21 = some ⟨oc_s21, od_s21, .func (PySem.W.fnOf "_law_shaken" "_law_shaken" (defArgs st_own_shaken) (defBody st_own_shaken) (defScope st_own_shaken) .none kV_s21 dc_s21 pm_s21 an_s21 cd_s21 ct_s21), sl_s21⟩) (c_s21 : PySem.W.codeIn K cd_s21 "_law_shaken" = true) (k_s21 : PySem.W.keepIn K (.ref p_s21) = true)
    {od_s22 an_s22 : Option Addr} {sl_s22 : Array (Option Value)} {oc_s22 kV_s22 dc_s22 pm_s22 cd_s22 ct_s22 : Value} (a_s22 : PySem.W.nsIn K mainGlobals "_law_rumour" = some (some (.ref p_s22)))
    (l_s22 : K.lookup p_s22 = some ⟨oc_s22, od_s22, .func (PySem.W.fnOf "_law_rumour" "_law_rumour" (defArgs st_rumour) (defBody st_rumour) (defScope st_rumour) .none kV_s22 dc_s22 pm_s22 an_s22 cd_s22 ct_s22), sl_s22⟩) (c_s22 : PySem.W.codeIn K cd_s22 "_law_rumour" = true) (k_s22 : PySem.W.keepIn K (.ref p_s22) = true)
    {od_s23 an_s23 : Option Addr} {sl_s23 : Array (Option Value)} {oc_s23 kV_s23 dc_s23 pm_s23 cd_s23 ct_s23 : Value} (a_s23 : PySem.W.nsIn K mainGlobals "_law_made" = some (some (.ref p_s23)))
    (l_s23 : K.lookup p_s23 = some ⟨oc_s23, od_s23, .func (PySem.W.fnOf "_law_made" "_law_made" (defArgs st_made) (defBody st_made) (defScope st_made) .none kV_s23 dc_s23 pm_s23 an_s23 cd_s23 ct_s23), sl_s23⟩) (c_s23 : PySem.W.codeIn K cd_s23 "_law_made" = true) (k_s23 : PySem.W.keepIn K (.ref p_s23) = true)
    {od_s24 an_s24 : Option Addr} {sl_s24 : Array (Option Value)} {oc_s24 kV_s24 dc_s24 pm_s24 cd_s24 ct_s24 : Value} (a_s24 : PySem.W.nsIn K mainGlobals "_law_long" = some (some (.ref p_s24)))
    (l_s24 : K.lookup p_s24 = some ⟨oc_s24, od_s24, .func (PySem.W.fnOf "_law_long" "_law_long" (defArgs st_long) (defBody st_long) (defScope st_long) .none kV_s24 dc_s24 pm_s24 an_s24 cd_s24 ct_s24), sl_s24⟩) (c_s24 : PySem.W.codeIn K cd_s24 "_law_long" = true) (k_s24 : PySem.W.keepIn K (.ref p_s24) = true)
    {od_s25 an_s25 : Option Addr} {sl_s25 : Array (Option Value)} {oc_s25 kV_s25 dc_s25 pm_s25 cd_s25 ct_s25 : Value} (a_s25 : PySem.W.nsIn K mainGlobals "law" = some (some (.ref p_s25)))
    (l_s25 : K.lookup p_s25 = some ⟨oc_s25, od_s25, .func (PySem.W.fnOf "law" "law" (defArgs st_law) (defBody st_law) (defScope st_law) .none kV_s25 dc_s25 pm_s25 an_s25 cd_s25 ct_s25), sl_s25⟩) (c_s25 : PySem.W.codeIn K cd_s25 "law" = true) (k_s25 : PySem.W.keepIn K (.ref p_s25) = true)
    {T_VERDICTS : Addr} {o_VERDICTS : Option Addr} {n_VERDICTS : Nat} {s_VERDICTS : Array (Option Value)} {k0_VERDICTS : Tok} {k1_VERDICTS : Tok}
    (ca_VERDICTS : PySem.W.nsIn K mainGlobals "VERDICTS" = some (some (.ref T_VERDICTS))) (cb_VERDICTS : K.lookup T_VERDICTS = some ⟨.type "tuple", o_VERDICTS, .seq #[.str "yes" k0_VERDICTS, .str "no" k1_VERDICTS] n_VERDICTS, s_VERDICTS⟩)
    (z_any : PySem.W.nsIn K mainGlobals "any" = some none)
    (z_int : PySem.W.nsIn K mainGlobals "int" = some none)
    (z_len : PySem.W.nsIn K mainGlobals "len" = some none)
    (z_list : PySem.W.nsIn K mainGlobals "list" = some none)
    (z_min : PySem.W.nsIn K mainGlobals "min" = some none)
    (z_range : PySem.W.nsIn K mainGlobals "range" = some none)
    (z_repr : PySem.W.nsIn K mainGlobals "repr" = some none)
    (z_reversed : PySem.W.nsIn K mainGlobals "reversed" = some none)
    (z_set : PySem.W.nsIn K mainGlobals "set" = some none)
    (z_sorted : PySem.W.nsIn K mainGlobals "sorted" = some none)
    (z_tuple : PySem.W.nsIn K mainGlobals "tuple" = some none)
    : ∃ fd : FuncData, (∀ (s : Shared) (u : Value), BindsTo s fd ⟨[u], []⟩ [("script", u)]) ∧ ∀ base : Heap, FnG l.prog w K mg base (L2.CX l.prog w) 20 fa fd ["script"] (spI K w mg XR 1 (fnM 11 [false] Lw.m_law_k41)) := by
  cases hfa.symm.trans (PySem.W.mg_of X G a_s25)
  have G_s0 := fun_mk (st := st_all_standing) l_s0 c_s0 k_s0
  have B_s0 := G_s0.binds (ps := ["matters"]) fun _ _ _ _ _ _ us hl => match us, hl with | [_], _ => rfl
  have G_s1 := fun_mk (st := st_readers_of) l_s1 c_s1 k_s1
  have B_s1 := G_s1.binds (ps := ["matters", "name"]) fun _ _ _ _ _ _ us hl => match us, hl with | [_, _], _ => rfl
  have G_s2 := fun_mk (st := st_all_resting) l_s2 c_s2 k_s2
  have B_s2 := G_s2.binds (ps := ["matters", "names"]) fun _ _ _ _ _ _ us hl => match us, hl with | [_, _], _ => rfl
  have G_s3 := fun_mk (st := st_rests_on) l_s3 c_s3 k_s3
  have B_s3 := G_s3.binds (ps := ["matters", "name"]) fun _ _ _ _ _ _ us hl => match us, hl with | [_, _], _ => rfl
  have G_s4 := fun_mk (st := st_all_known) l_s4 c_s4 k_s4
  have B_s4 := G_s4.binds (ps := ["matters", "news"]) fun _ _ _ _ _ _ us hl => match us, hl with | [_, _], _ => rfl
  have G_s5 := fun_mk (st := st_is_turned) l_s5 c_s5 k_s5
  have B_s5 := G_s5.binds (ps := ["note", "known"]) fun _ _ _ _ _ _ us hl => match us, hl with | [_, _], _ => rfl
  have G_s6 := fun_mk (st := st_shaken) l_s6 c_s6 k_s6
  have B_s6 : BindsK K (PySem.W.fnOf "shaken" "shaken" (defArgs st_shaken) (defBody st_shaken) (defScope st_shaken) .none (.ref D_s6) dc_s6 pm_s6 an_s6 cd_s6 ct_s6) ["matters", "news"] ["news"] 1 1 := fun s us ws _ h1 h2 => match us, ws, h1, h2 with | [_], [_], _, _ => .of_eq rfl
  have G_s7 := fun_mk (st := st_source) l_s7 c_s7 k_s7
  have B_s7 := G_s7.binds (ps := ["script"]) fun _ _ _ _ _ _ us hl => match us, hl with | [_], _ => rfl
  have G_s8 := fun_mk (st := st_draw) l_s8 c_s8 k_s8
  have B_s8 := G_s8.binds (ps := ["feed", "choices"]) fun _ _ _ _ _ _ us hl => match us, hl with | [_, _], _ => rfl
  have G_s9 := fun_mk (st := st_some) l_s9 c_s9 k_s9
  have B_s9 := G_s9.binds (ps := ["feed", "folk", "size"]) fun _ _ _ _ _ _ us hl => match us, hl with | [_, _, _], _ => rfl
  have G_s10 := fun_mk (st := st_pact) l_s10 c_s10 k_s10
  have B_s10 := G_s10.binds (ps := ["feed"]) fun _ _ _ _ _ _ us hl => match us, hl with | [_], _ => rfl
  have G_s11 := fun_mk (st := st_folk) l_s11 c_s11 k_s11
  have B_s11 := G_s11.binds (ps := []) fun _ _ _ _ _ _ us hl => match us, hl with | [], _ => rfl
  have G_s12 := fun_mk (st := st_titles) l_s12 c_s12 k_s12
  have B_s12 := G_s12.binds (ps := ["feed"]) fun _ _ _ _ _ _ us hl => match us, hl with | [_], _ => rfl
  have G_s13 := fun_mk (st := st_slips) l_s13 c_s13 k_s13
  have B_s13 := G_s13.binds (ps := ["feed", "titles", "path"]) fun _ _ _ _ _ _ us hl => match us, hl with | [_, _, _], _ => rfl
  have G_s14 := fun_mk (st := st_votes) l_s14 c_s14 k_s14
  have B_s14 := G_s14.binds (ps := ["feed", "pact", "seats"]) fun _ _ _ _ _ _ us hl => match us, hl with | [_, _, _], _ => rfl
  have G_s15 := fun_mk (st := st_case) l_s15 c_s15 k_s15
  have B_s15 := G_s15.binds (ps := ["feed", "pact", "titles", "found", "title"]) fun _ _ _ _ _ _ us hl => match us, hl with | [_, _, _, _, _], _ => rfl
  have G_s16 := fun_mk (st := st_cases) l_s16 c_s16 k_s16
  have B_s16 := G_s16.binds (ps := ["feed", "pact"]) fun _ _ _ _ _ _ us hl => match us, hl with | [_, _], _ => rfl
  have G_s17 := fun_mk (st := st_find) l_s17 c_s17 k_s17
  have B_s17 := G_s17.binds (ps := ["cases", "title"]) fun _ _ _ _ _ _ us hl => match us, hl with | [_, _], _ => rfl
  have G_s18 := fun_mk (st := st_stands) l_s18 c_s18 k_s18
  have B_s18 := G_s18.binds (ps := ["cases", "title"]) fun _ _ _ _ _ _ us hl => match us, hl with | [_, _], _ => rfl
  have G_s19 := fun_mk (st := st_own_is_turned) l_s19 c_s19 k_s19
  have B_s19 := G_s19.binds (ps := ["cases", "rumour", "slip"]) fun _ _ _ _ _ _ us hl => match us, hl with | [_, _, _], _ => rfl
  have G_s20 := fun_mk (st := st_rests) l_s20 c_s20 k_s20
  have B_s20 := G_s20.binds (ps := ["cases", "titles"]) fun _ _ _ _ _ _ us hl => match us, hl with | [_, _], _ => rfl
  have G_s21 := fun_mk (st := st_own_shaken) l_s21 c_s21 k_s21
  have B_s21 := G_s21.binds (ps := ["cases", "rumour"]) fun _ _ _ _ _ _ us hl => match us, hl with | [_, _], _ => rfl
  have G_s22 := fun_mk (st := st_rumour) l_s22 c_s22 k_s22
  have B_s22 := G_s22.binds (ps := ["feed", "titles"]) fun _ _ _ _ _ _ us hl => match us, hl with | [_, _], _ => rfl
  have G_s23 := fun_mk (st := st_made) l_s23 c_s23 k_s23
  have B_s23 := G_s23.binds (ps := ["title", "under", "seats", "slips", "word"]) fun _ _ _ _ _ _ us hl => match us, hl with | [_, _, _, _, _], _ => rfl
  have G_s24 := fun_mk (st := st_long) l_s24 c_s24 k_s24
  have B_s24 := G_s24.binds (ps := ["more", "word"]) fun _ _ _ _ _ _ us hl => match us, hl with | [_, _], _ => rfl
  have G_s25 := fun_mk (st := st_law) l_s25 c_s25 k_s25
  have P_p_folk_0_ : BindsP K (PySem.W.fnOf "_law_folk" "_law_folk" (defArgs st_folk) (defBody st_folk) (defScope st_folk) .none kV_s11 dc_s11 pm_s11 an_s11 cd_s11 ct_s11) [] [] 0 0 [] := fun s us ws _ h1 h2 => match us, ws, h1, h2 with | [], [], _, _ => .of_eq rfl
  have Q_p_folk_0_ : pkOk K (0 + 0) [] := trivial
  have P_p_rests_on_0_name_matters : BindsP K (PySem.W.fnOf "rests_on" "rests_on" (defArgs st_rests_on) (defBody st_rests_on) (defScope st_rests_on) .none kV_s3 dc_s3 pm_s3 an_s3 cd_s3 ct_s3) ["matters", "name"] ["name", "matters"] 0 2 [.inl 1, .inl 0] := fun s us ws _ h1 h2 => match us, ws, h1, h2 with | [], [_, _], _, _ => .of_eq rfl
  have Q_p_rests_on_0_name_matters : pkOk K (0 + 2) [.inl 1, .inl 0] := ⟨(by decide), ⟨(by decide), trivial⟩⟩
  have P_p_shaken_1_ : BindsP K (PySem.W.fnOf "shaken" "shaken" (defArgs st_shaken) (defBody st_shaken) (defScope st_shaken) .none (.ref D_s6) dc_s6 pm_s6 an_s6 cd_s6 ct_s6) ["matters", "news"] [] 1 0 [.inl 0, .inr ((.ref T_shaken_news), (.ref T_shaken_news), (.tuple []))] := fun s us ws X h1 h2 => L2.BindsTo.of_looks fun M => L2.KwChain.looks (l := [("news", (.ref T_shaken_news))]) X (List.forall_mem_cons.mpr ⟨e_T_shaken_news, (fun _ h => nomatch h)⟩) (match us, ws, h1, h2 with | [_], [], _, _ => ⟨_, _, _, _, _, _, rfl, rfl, rfl⟩)
  have Q_p_shaken_1_ : pkOk K (1 + 0) [.inl 0, .inr ((.ref T_shaken_news), (.ref T_shaken_news), (.tuple []))] := ⟨(by decide), ⟨⟨rfl, fun w _ _ _ F => .tup (.inr ⟨_, #[], _, w_T_shaken_news, rfl, rfl, Nat.zero_le _, .nil⟩) .nil⟩, trivial⟩⟩
  have P_p_shaken_0_news_matters : BindsP K (PySem.W.fnOf "shaken" "shaken" (defArgs st_shaken) (defBody st_shaken) (defScope st_shaken) .none (.ref D_s6) dc_s6 pm_s6 an_s6 cd_s6 ct_s6) ["matters", "news"] ["news", "matters"] 0 2 [.inl 1, .inl 0] := fun s us ws _ h1 h2 => match us, ws, h1, h2 with | [], [_, _], _, _ => .of_eq rfl
  have Q_p_shaken_0_news_matters : pkOk K (0 + 2) [.inl 1, .inl 0] := ⟨(by decide), ⟨(by decide), trivial⟩⟩
  have Z : Zs K mg p_s0 _ p_s1 _ p_s2 _ p_s3 _ p_s4 _ p_s5 _ p_s6 _ p_s7 _ p_s8 _ p_s9 _ p_s10 _ p_s11 _ p_s12 _ p_s13 _ p_s14 _ p_s15 _ p_s16 _ p_s17 _ p_s18 _ p_s19 _ p_s20 _ p_s21 _ p_s22 _ p_s23 _ p_s24 _ T_shaken_news (.ref T_VERDICTS) (.ref T_VERDICTS) := ⟨PySem.W.mg_of X G ca_VERDICTS, rfl, fun K2 e F => dv_const (xs := [.str "yes", .str "no"]) (e ▸ cb_VERDICTS) (by simp [sizeLine]) (.cons ⟨_, rfl⟩ (.cons ⟨_, rfl⟩ (.nil))) (.cons (.str _) (.cons (.str _) (.nil))), PySem.W.mg_none_of X G z_any, PySem.W.mg_none_of X G z_int, PySem.W.mg_none_of X G z_len, PySem.W.mg_none_of X G z_list, PySem.W.mg_none_of X G z_min, PySem.W.mg_none_of X G z_range, PySem.W.mg_none_of X G z_repr, PySem.W.mg_none_of X G z_reversed, PySem.W.mg_none_of X G z_set, PySem.W.mg_none_of X G z_sorted, PySem.W.mg_none_of X G z_tuple, PySem.W.mg_of X G a_s0, k_s0, B_s0, PySem.W.mg_of X G a_s1, k_s1, B_s1, PySem.W.mg_of X G a_s2, k_s2, B_s2, PySem.W.mg_of X G a_s3, k_s3, B_s3, PySem.W.mg_of X G a_s4, k_s4, B_s4, PySem.W.mg_of X G a_s5, k_s5, B_s5, PySem.W.mg_of X G a_s6, k_s6, B_s6, PySem.W.mg_of X G a_s7, k_s7, B_s7, PySem.W.mg_of X G a_s8, k_s8, B_s8, PySem.W.mg_of X G a_s9, k_s9, B_s9, PySem.W.mg_of X G a_s10, k_s10, B_s10, PySem.W.mg_of X G a_s11, k_s11, B_s11, PySem.W.mg_of X G a_s12, k_s12, B_s12, PySem.W.mg_of X G a_s13, k_s13, B_s13, PySem.W.mg_of X G a_s14, k_s14, B_s14, PySem.W.mg_of X G a_s15, k_s15, B_s15, PySem.W.mg_of X G a_s16, k_s16, B_s16, PySem.W.mg_of X G a_s17, k_s17, B_s17, PySem.W.mg_of X G a_s18, k_s18, B_s18, PySem.W.mg_of X G a_s19, k_s19, B_s19, PySem.W.mg_of X G a_s20, k_s20, B_s20, PySem.W.mg_of X G a_s21, k_s21, B_s21, PySem.W.mg_of X G a_s22, k_s22, B_s22, PySem.W.mg_of X G a_s23, k_s23, B_s23, PySem.W.mg_of X G a_s24, k_s24, B_s24, P_p_folk_0_, Q_p_folk_0_, P_p_rests_on_0_name_matters, Q_p_rests_on_0_name_matters, P_p_shaken_1_, Q_p_shaken_1_, P_p_shaken_0_news_matters, Q_p_shaken_0_news_matters⟩
  refine ⟨PySem.W.fnOf "law" "law" (defArgs st_law) (defBody st_law) (defScope st_law) .none kV_s25 dc_s25 pm_s25 an_s25 cd_s25 ct_s25, fun s u => .of_eq rfl, fun base => ?_⟩
  have K_s0 := ok_all_standing (P := l.prog) (w := w) (base := base) (XR := XR) Z G_s0 
  have K_s1 := ok_readers_of (P := l.prog) (w := w) (base := base) (XR := XR) Z G_s1 
  have K_s2 := ok_all_resting (P := l.prog) (w := w) (base := base) (XR := XR) Z G_s2 K_s1
  have K_s3 := ok_rests_on (P := l.prog) (w := w) (base := base) (XR := XR) Z G_s3 K_s2
  have K_s4 := ok_all_known (P := l.prog) (w := w) (base := base) (XR := XR) Z G_s4 K_s0
  have K_s5 := ok_is_turned (P := l.prog) (w := w) (base := base) (XR := XR) Z G_s5 
  have K_s6 := ok_shaken (P := l.prog) (w := w) (base := base) (XR := XR) Z G_s6 K_s4 K_s5 K_s2
  have K_s7 := ok_source (P := l.prog) (w := w) (base := base) (XR := XR) Z G_s7 
  have K_s8 := ok_draw (P := l.prog) (w := w) (base := base) (XR := XR) Z G_s8 
  have K_s9 := ok_some (P := l.prog) (w := w) (base := base) (XR := XR) Z G_s9 K_s8
  have K_s10 := ok_pact (P := l.prog) (w := w) (base := base) (XR := XR) Z G_s10 K_s8
  have K_s11 := ok_folk (P := l.prog) (w := w) (base := base) (XR := XR) Z G_s11 
  have K_s12 := ok_titles (P := l.prog) (w := w) (base := base) (XR := XR) Z G_s12 K_s8
  have K_s13 := ok_slips (P := l.prog) (w := w) (base := base) (XR := XR) Z G_s13 K_s8 K_s9 K_s11
  have K_s14 := ok_votes (P := l.prog) (w := w) (base := base) (XR := XR) Z G_s14 K_s8 K_s9
  have K_s15 := ok_case (P := l.prog) (w := w) (base := base) (XR := XR) Z G_s15 K_s8 K_s9 K_s11 K_s13 K_s14
  have K_s16 := ok_cases (P := l.prog) (w := w) (base := base) (XR := XR) Z G_s16 K_s12 K_s15
  have K_s17 := ok_find (P := l.prog) (w := w) (base := base) (XR := XR) Z G_s17 
  have K_s18 := ok_stands (P := l.prog) (w := w) (base := base) (XR := XR) Z G_s18 K_s17 15
  have K_s19 := ok_own_is_turned (P := l.prog) (w := w) (base := base) (XR := XR) Z G_s19 K_s18
  have K_s20 := ok_rests (P := l.prog) (w := w) (base := base) (XR := XR) Z G_s20 
  have K_s21 := ok_own_shaken (P := l.prog) (w := w) (base := base) (XR := XR) Z G_s21 K_s19 K_s20
  have K_s22 := ok_rumour (P := l.prog) (w := w) (base := base) (XR := XR) Z G_s22 K_s8 K_s9 K_s11
  have K_s23 := ok_made (P := l.prog) (w := w) (base := base) (XR := XR) Z G_s23 
  have K_s24 := ok_long (P := l.prog) (w := w) (base := base) (XR := XR) Z G_s24 K_s23
  exact ok_law Z G_s25 K_s7 K_s16 K_s10 K_s24 K_s22 K_s20 K_s3 K_s21 K_s6
end Dv
namespace Lw
open PySem L2 PySem.W PySem.SeqAt Eg
end Lw
namespace Lw
open PySem L2 PySem.W PySem.SeqAt Eg
end Lw
namespace Lw
open PySem L2 PySem.W PySem.SeqAt Eg
end Lw
namespace Eg
open PySem L2 PySem.W PySem.SeqAt
theorem boolsOf_map {α : Type} (p : α → Bool) : ∀ l : List α, boolsOf (l.map fun x => .bool (p x)) = some (l.map p)
  | [] => rfl
  | x :: l => by rw [List.map_cons, boolsOf, boolsOf_map p l]; rfl
theorem gAny_map {α : Type} (p : α → Bool) (l : List α) : gAny [.list (l.map fun x => .bool (p x))] = some (.sh (.bool (l.any p))) := by
  simp only [gAny, boolsOf_map, Option.map_some, List.any_map]
  rfl
end Eg
namespace Lw
open PySem L2 PySem.W PySem.SeqAt Eg
def isCount : PyData → Bool
  | .int i => decide (0 ≤ i)
  | _ => false
def wordB (x : Str) : Bool := (decide (1 ≤ (x.length : Int)) && decide ((x.length : Int) ≤ 8)) && x.cps.toList.all fun c => decide (97 ≤ c) && decide (c ≤ 122)
end Lw
namespace Eg
open PySem L2 PySem.W PySem.SeqAt
section
variable (a b c d e : PyData) (i : Nat) (ρ : Rho)
theorem ix4_0 : gIx (.list [a, b, c, d]) (.int 0) = some a := rfl
theorem ix4_1 : gIx (.list [a, b, c, d]) (.int 1) = some b := rfl
theorem ix4_2 : gIx (.list [a, b, c, d]) (.int 2) = some c := rfl
theorem ix4_3 : gIx (.list [a, b, c, d]) (.int 3) = some d := rfl
theorem put4_1 : putLO (some (some (.ol [a, b, c, d]))) i e (.int 1) ρ = .ok .nx (ρ.set i (some (.ol [a, e, c, d]))) := rfl
theorem put4_2 : putLO (some (some (.ol [a, b, c, d]))) i e (.int 2) ρ = .ok .nx (ρ.set i (some (.ol [a, b, e, d]))) := rfl
theorem put4_3 : putLO (some (some (.ol [a, b, c, d]))) i e (.int 3) ρ = .ok .nx (ρ.set i (some (.ol [a, b, c, e]))) := rfl
end
end Eg
namespace Lw
open PySem L2 PySem.W PySem.SeqAt Eg
def FeedAt (xs : List PyData) (n : Nat) : Prop := ∃ c s r k, xs = [.list c, .int s, .int r, .int k] ∧ (∀ d ∈ c, ∃ i, d = PyData.int i) ∧ 0 ≤ s ∧ 0 ≤ k ∧ k ≤ n
theorem FeedAt.mono {xs : List PyData} {n m : Nat} (h : FeedAt xs n) (l : n ≤ m) : FeedAt xs m := by
  obtain ⟨c, s, r, k, e, h1, h2, h3, h4⟩ := h
  exact ⟨c, s, r, k, e, h1, h2, h3, by omega⟩
end Lw
set_option exponentiation.threshold 10000
namespace Lw
open PySem L2 PySem.W PySem.SeqAt Eg
end Lw
set_option exponentiation.threshold 10000
namespace Lw
open PySem L2 PySem.W PySem.SeqAt Eg
end Lw
namespace Lw
open PySem L2 PySem.W PySem.SeqAt Eg
abbrev Told := Str × Int × Int
def td (t : Told) : PyData := .tuple [.str t.1, .int t.2.1, .int t.2.2]
def newsD (l : List Told) : PyData := .tuple (l.map td)
def Good (ts : List Str) (l : List Told) : Prop := l.map (·.1) = ts ∧ ∀ t ∈ l, 0 ≤ t.2.1 ∧ t.2.1 ≤ 10000000000 ∧ 0 ≤ t.2.2 ∧ t.2.2 ≤ 100000
theorem Good.len {ts : List Str} {l : List Told} (h : Good ts l) : l.length = ts.length := by rw [← h.1, List.length_map]
theorem td_fd {t : Told} (hs : StrF t.1) (h : 0 ≤ t.2.1 ∧ t.2.1 ≤ 10000000000 ∧ 0 ≤ t.2.2 ∧ t.2.2 ≤ 100000) : Fd 69 1 (td t) :=
  Fd.tuple (n := 20) (k := 0) (m := 3) (all3 (Fd.str hs) ((Fd.int (n := 15) (by omega)).mono (by decide) (by decide)) ((Fd.int (n := 15) (by omega)).mono (by decide) (by decide))) (Nat.le_refl 3)
theorem five_fine : ∀ x ∈ five, StrF x := by decide +kernel
theorem Good.fd {ts : List Str} {l : List Told} (h : Good ts l) (hs : List.Sublist ts five) : Fd 358 2 (newsD l) :=
  Fd.tuple (n := 69) (k := 1) (m := 5) (allM fun t ht => td_fd (five_fine _ (hs.mem (by rw [← h.1]; exact List.mem_map_of_mem ht))) (h.2 t ht)) (by rw [List.length_map, h.len]; exact hs.length_le)
end Lw
namespace Lw
open PySem L2 PySem.W PySem.SeqAt Eg
def isWord : PyData → Bool
  | .str x => wordB x
  | _ => false
end Lw
namespace Eg
open PySem L2 PySem.W PySem.SeqAt
theorem ne_list_nil {ds : List PyData} (h : small (.list ds) = true) : gNe (.list ds) (.list []) = some (.bool (!ds.isEmpty)) := by
  unfold gNe
  rw [if_pos h]
  cases ds <;> simp [PyData.eqv, PyData.eqvAll]
end Eg
namespace Lw
open PySem L2 PySem.W PySem.SeqAt Eg
def isHand : PyData → Bool
  | .tuple [a, b] => isWord a && isWord b
  | _ => false
def isPair : PyData → Bool
  | .tuple [a, b] => isHand a && (isHand b && dataLt a b)
  | _ => false
def isTold : PyData → Bool
  | .tuple [a, b, c] => isWord a && (isCount b && isCount c)
  | _ => false
section
variable {q n k : Nat} {d : PyData}
end
end Lw
set_option exponentiation.threshold 10000
namespace Eg
open PySem L2 PySem.W PySem.SeqAt
theorem sIx_none' (n d : Nat) : HT.sIx n d none = d := rfl
theorem sIx_some {n d : Nat} {v : Int} (h : 0 ≤ v) : HT.sIx n d (some v) = min v.toNat n := by
  unfold HT.sIx
  simp only
  rw [if_neg (by omega)]
theorem cut_to {ds : List PyData} {v : Int} (h : 0 ≤ v) : cutD ds none (some v) = ds.take v.toNat := by
  unfold cutD
  rw [sIx_none', sIx_some h, List.drop_zero, Nat.sub_zero]
  by_cases q : v.toNat ≤ ds.length
  · rw [Nat.min_eq_left q]
  · rw [Nat.min_eq_right (by omega), List.take_of_length_le (Nat.le_refl _), List.take_of_length_le (by omega)]
theorem cut_fr {ds : List PyData} {v : Int} (h : 0 ≤ v) : cutD ds (some v) none = ds.drop v.toNat := by
  unfold cutD
  rw [sIx_none', sIx_some h]
  by_cases q : v.toNat ≤ ds.length
  · rw [Nat.min_eq_left q]
    exact List.take_of_length_le (by rw [List.length_drop]; exact Nat.le_refl _)
  · rw [Nat.min_eq_right (by omega), Nat.sub_self, List.take_zero, List.drop_eq_nil_of_le (by omega)]
theorem split_at {ds : List PyData} {v : Int} (h0 : 0 ≤ v) (h1 : v < (ds.length : Int)) : ∃ A e B, ds = A ++ e :: B ∧ cutD ds none (some v) = A ∧ cutD ds (some (v + 1)) none = B ∧ cutD ds (some v) (some (v + 1)) = [e] ∧ cutD ds (some v) none = e :: B ∧ L2.atI ds v = some e := by
  have hv : v.toNat < ds.length := by omega
  have hd : ds.drop v.toNat = ds[v.toNat] :: ds.drop (v.toNat + 1) := List.drop_eq_getElem_cons hv
  refine ⟨ds.take v.toNat, ds[v.toNat], ds.drop (v.toNat + 1), ?_, cut_to h0, ?_, ?_, ?_, ?_⟩
  · rw [← hd, List.take_append_drop]
  · have e1 : (v + 1).toNat = v.toNat + 1 := by omega
    rw [cut_fr (by omega), e1]
  · unfold cutD
    rw [sIx_some h0, sIx_some (by omega), Nat.min_eq_left (by omega), Nat.min_eq_left (by omega), hd]
    have : (v + 1).toNat - v.toNat = 1 := by omega
    rw [this]
    rfl
  · rw [cut_fr h0, hd]
  · unfold L2.atI ixN
    simp [h0, h1]
theorem gIx_mem {l : List PyData} {v : Int} (h0 : 0 ≤ v) (h1 : v < (l.length : Int)) : ∃ d ∈ l, gIx (.list l) (.int v) = some d := by
  obtain ⟨A, e, B, rfl, _, _, _, _, h⟩ := split_at h0 h1
  exact ⟨e, by simp, h⟩
theorem gSl_t (ds : List PyData) (lo hi : Option Int) : gSl (.tuple ds) lo hi = some (.sh (.tuple (cutD ds lo hi))) := rfl
theorem aAdd_tt {xs ys : List PyData} (h : xs.length + ys.length ≤ sizeLine) : aAdd (.tuple xs) (.tuple ys) = some (.sh (.tuple (xs ++ ys))) := by
  simp only [aAdd]
  rw [if_pos h]
theorem aAdd_ll {xs ys : List PyData} (h : xs.length + ys.length ≤ sizeLine) : aAdd (.list xs) (.list ys) = some (.ol (xs ++ ys)) := by
  simp only [aAdd]
  rw [if_pos h]
theorem gList_t (ds : List PyData) : gList [.tuple ds] = some (.ol ds) := rfl
end Eg
namespace Lw
open PySem L2 PySem.W PySem.SeqAt Eg
end Lw
namespace Lw
open PySem L2 PySem.W PySem.SeqAt Eg
theorem key_inj {a b : PyData} (al : alike a b = true) (ha : keyB a = true) (hb : keyB b = true) (e : keyToks a = keyToks b) : a = b := (toks_inj a b [] [] al ha hb (by rw [e])).1
theorem eqv_key {a b : PyData} (al : alike a b = true) (ha : keyB a = true) (hb : keyB b = true) : PyData.eqv a b = true ↔ a = b := by
  constructor
  · intro h
    exact key_inj al ha hb ((toks_eqv a b al).1 h)
  · rintro rfl
    exact eqv_refl_alike a al
theorem key_hd (p : Hand) : keyT (hd p) = true := by simp [hd, keyT, keyBs, keyB, PyData.depth, PyData.depthAll]
theorem hd_inj2 {x y : Hand} (h : hd x = hd y) : x = y := hd_inj (by rw [h])
theorem gIn_hd {l : List Hand} {x : Hand} : gIn (hd x) (.tuple (l.map hd)) = some (.bool (decide (x ∈ l))) := by
  show (if small (hd x) = true then some (PyData.bool ((l.map hd).any fun y => PyData.eqv y (hd x))) else none) = _
  rw [if_pos (hd_small x), List.any_map]
  congr 2
  rw [Bool.eq_iff_iff, List.any_eq_true, decide_eq_true_iff]
  constructor
  · rintro ⟨y, hy, e⟩
    have e : PyData.eqv (hd y) (hd x) = true := e
    rw [← eqv_hd e]; exact hy
  · exact fun h => ⟨x, h, eqv_self x⟩
end Lw
namespace Lw
open PySem L2 PySem.W PySem.SeqAt Eg
section
variable {q n k : Nat} {d : PyData}
end
end Lw
namespace Lw
open PySem L2 PySem.W PySem.SeqAt Eg
section
variable {q n k : Nat} {d : PyData}
theorem gKeys_hd {l : List Hand} (h : l.length < 64) : gKeys [.tuple (l.map hd)] = some (l.map hd) := by
  have h : (l.map hd).all keyT = true ∧ (l.map hd).length < 64 := ⟨List.all_eq_true.mpr fun d hd' => by
    obtain ⟨p, _, rfl⟩ := List.mem_map.mp hd'
    exact key_hd p, by rw [List.length_map]; exact h⟩
  show (if _ then _ else _) = _
  rw [if_pos h]
theorem gOnce_hd {l : List Hand} (h : l.length < 64) : gOnce (l.map hd) = some (.ol (sortD (once (l.map hd)))) := if_pos (sortOk_hd l (by omega))
end
end Lw
namespace Eg
open PySem L2 PySem.W PySem.SeqAt
section
variable {α β : Type} {src src1 : M (List PyData)} {t t1 : Tgt} {mt mt1 : M Bool} {me : M PyData} {vs vs1 : List Nat} {ρ ρ0 : Rho}
end
end Eg
namespace Lw
open PySem L2 PySem.W PySem.SeqAt Eg
section
variable {l : List Hand} {m : List (Hand × Hand)}
def kvs (m : List (Hand × Hand)) : List (PyData × PyData) := kFill [] (m.map fun y => (pd y, PyData.bool true))
end
end Lw
namespace Lw
open PySem L2 PySem.W PySem.SeqAt Eg
theorem ix_last {ds : List PyData} {d : PyData} (h : ds.getLast? = some d) : gIx (.tuple ds) (.int (-1)) = some d := by
  show L2.atI ds (-1) = _
  unfold L2.atI ixN
  have hl : 0 < ds.length := by
    cases ds with
    | nil => cases h
    | cons _ _ => simp
  rw [if_neg (by decide), if_pos (by omega)]
  rw [List.getLast?_eq_getElem?] at h
  show ds[((-1 : Int) + (ds.length : Int)).toNat]? = _
  rw [show ((-1 : Int) + (ds.length : Int)).toNat = ds.length - 1 by omega]
  exact h
section
variable {l : List Hand} {m : List (Hand × Hand)} {c : Nat} {o0 o3 : Option OD}
end
end Lw
namespace Lw
open PySem L2 PySem.W PySem.SeqAt Eg
end Lw
namespace Lw
open PySem L2 PySem.W PySem.SeqAt Eg
end Lw
namespace Eg
open PySem L2 PySem.W PySem.SeqAt
theorem kAt_repl {kvs : List (PyData × PyData)} {k d x : PyData} : kAt (kRepl k d kvs) x = if nk k = nk x then (if kHas kvs k = true then some d else none) else kAt kvs x := by
  induction kvs with
  | nil => simp [kRepl, kAt, kHas]
  | cons p kvs ih =>
    have e : kRepl k d (p :: kvs) = (if nk p.1 = nk k then (p.1, d) else p) :: kRepl k d kvs := rfl
    rw [e]
    by_cases h : nk p.1 = nk k
    · rw [if_pos h, kAt, kAt]
      by_cases q : nk k = nk x
      · rw [if_pos (h.trans q), if_pos q, if_pos (by simp [kHas, h])]
      · rw [if_neg (fun z => q (h.symm.trans z)), if_neg q, if_neg (fun z => q (h.symm.trans z)), ih, if_neg q]
    · rw [if_neg h, kAt, kAt]
      have hk : kHas (p :: kvs) k = kHas kvs k := by simp [kHas, h]
      rw [hk]
      by_cases q : nk k = nk x
      · rw [if_neg (fun z => h (z.trans q.symm)), ih, if_pos q, if_pos q]
      · rw [if_neg q]
        split
        · rfl
        · rw [ih, if_neg q]
theorem kAt_app {kvs : List (PyData × PyData)} {k d x : PyData} (h : kHas kvs k = false) : kAt (kvs ++ [(k, d)]) x = if nk k = nk x then some d else kAt kvs x := by
  induction kvs with
  | nil => simp [kAt]
  | cons p kvs ih =>
    have hk : nk p.1 ≠ nk k ∧ kHas kvs k = false := by simpa [kHas] using h
    rw [List.cons_append, kAt, kAt]
    by_cases q : nk p.1 = nk x
    · rw [if_pos q, if_pos q, if_neg (fun z => hk.1 (q.trans z.symm))]
    · rw [if_neg q, if_neg q, ih hk.2]
theorem kAt_put {kvs : List (PyData × PyData)} {k d x : PyData} : kAt (kPut kvs k d) x = if nk k = nk x then some d else kAt kvs x := by
  unfold kPut
  split
  · rename_i h
    rw [kAt_repl, if_pos h]
  · rename_i h
    exact kAt_app (by simpa using h)
end Eg
namespace Eg
open PySem L2 PySem.W PySem.SeqAt
section
variable {α : Type} {t : Tgt} {mt : M Bool} {me : M PyData} {vs : List Nat}
end
end Eg
namespace Lw
open PySem L2 PySem.W PySem.SeqAt Eg
def hands7 : List Hand := [("a", "a"), ("a", "ab"), ("a", "bob"), ("ab", "a"), ("elm", "ann"), ("elm", "bob"), ("elm", "z")]
def hands5 : List Hand := [("oak", "ann"), ("oak", "zzzzzzzz"), ("yew", "c"), ("zzzzzzzz", "a"), ("zzzzzzzz", "b")]
structure CrewF (l : List Hand) : Prop where
  len : l.length ≤ 9
  rise : l.Pairwise fun a b => lt a b = true
  mem : ∀ h ∈ l, h ∈ hands7 ++ hands5
end Lw
namespace Lw
open PySem L2 PySem.W PySem.SeqAt Eg
section
variable {l : List Hand}
structure CallF (l : List Hand) (m : List (Hand × Hand)) (c : Nat) : Prop where
  crew : CrewF l
  free : List.Sublist m (rise l)
  least : 2 ≤ c
  most : c ≤ 5
end
end Lw
namespace Lw
open PySem L2 PySem.W PySem.SeqAt Eg
section
variable {q n k : Nat} {d : PyData}
end
end Lw
namespace Lw
open PySem L2 PySem.W PySem.SeqAt Eg
section
variable {q n k : Nat} {d : PyData}
end
end Lw
namespace Lw
open PySem L2 PySem.W PySem.SeqAt Eg
structure Brn where
  p : Hand × Hand
  o : Str
  a : Int
  b : Int
  d : Int
deriving DecidableEq
def brD (x : Brn) : PyData := .tuple [pd x.p, .tuple [.str x.o, .int x.a, .int x.b], .int x.d]
end Lw
namespace Lw
open PySem L2 PySem.W PySem.SeqAt Eg
def srtI (l : List Int) : List Int := l.mergeSort fun a b => dle (.int a) (.int b)
def Far (w : Int) (x y : Brn) : Prop := x.p = y.p → w ≤ (((x.d - y.d).natAbs : Nat) : Int)
theorem Far.symm {w : Int} {x y : Brn} (h : Far w x y) : Far w y x := fun e => by have := h e.symm; omega
def daysOf (l : List Brn) (p : Hand × Hand) : List Int := srtI ((l.filter fun x => decide (x.p = p)).map (·.d))
end Lw
namespace Lw
open PySem L2 PySem.W PySem.SeqAt Eg
theorem gTup_l (ds : List PyData) : gTuple [.list ds] = some (.sh (.tuple ds)) := rfl
section
variable {t B : PyData} {w : Int} {D : OD} {m : List Brn} {a0 a1 a2 a3 a4 a5 a6 a7 a8 a9 a10 a11 : Option OD}
end
end Lw
namespace Lw
open PySem L2 PySem.W PySem.SeqAt Eg
section
variable {w : Int} {m : List Brn} {a0 a1 a3 a5 a6 a7 a8 a9 a10 a11 : Option OD}
end
def rowsD (l : List Brn) (sp : List (Hand × Hand)) : List PyData := sp.map fun p => .tuple [pd p, .tuple ((daysOf l p).map .int)]
end Lw
namespace Lw
open PySem L2 PySem.W PySem.SeqAt Eg
def isBurn : PyData → Bool
  | .tuple [a, b, c] => isPair a && (isTold b && isCount c)
  | _ => false
section
variable {q n k : Nat} {d : PyData}
end
end Lw
namespace Lw
open PySem L2 PySem.W PySem.SeqAt Eg
def okBr (l : List Brn) : Prop := ∀ x ∈ l, isBurn (brD x) = true
section
variable {q n k : Nat} {l : List Brn} {a b t : PyData} {w : Int} {a0 a2 a3 a5 : Option OD}
end
end Lw
namespace Lw
open PySem L2 PySem.W PySem.SeqAt Eg
section
variable {q n k : Nat} {l : List Brn} {ks : List (Hand × Hand)} {a b t : PyData} {w : Int} {R : List PyData} {a1 a7 a8 a9 : Option OD}
end
end Lw
namespace Lw
open PySem L2 PySem.W PySem.SeqAt Eg
section
variable {q n k : Nat} {l : List Brn} {ks : List (Hand × Hand)} {a b t : PyData} {w : Int} {R : List PyData} {a1 a7 a8 a9 : Option OD}
end
end Lw
namespace Lw
open PySem L2 PySem.W PySem.SeqAt Eg
section
variable {q n k : Nat} {l : List Brn} {ks : List (Hand × Hand)} {t : PyData} {w : Int} {R : List PyData}
variable {tx ty tz : PyData} {a1 a5 a6 a7 a8 a9 : Option OD}
end
end Lw
namespace Lw
open PySem L2 PySem.W PySem.SeqAt Eg
section
variable {q n k : Nat} {l : List Brn} {t : PyData} {w : Int}
end
end Lw
namespace Lw
open PySem L2 PySem.W PySem.SeqAt Eg
structure GoodB (l : List Brn) : Prop where
  nd : l.Nodup
  len : l.length ≤ 1000
  ok : okBr l
  days : ∀ x ∈ l, 0 ≤ x.d
section
variable {q n k : Nat} {l : List Brn} {d t : PyData} {w : Int}
end
end Lw
namespace Eg
open PySem L2 PySem.W PySem.SeqAt PySem.Spec PyProof.Rows PySem.NumText PySem.W.KIN PySem.Builtin.Str
mutual
def smp : PyData → Bool
  | .int _ => true
  | .str s => s.cps.toList.all fun c => decide (97 ≤ c) && decide (c ≤ 122)
  | .tuple ds => smps ds
  | .none => false
  | .bool _ => false
  | .list _ => false
  | .dict _ => false
def smps : List PyData → Bool
  | [] => true
  | d :: ds => smp d && smps ds
end
end Eg
namespace Lw
open PySem L2 PySem.W PySem.SeqAt Eg
section
variable {q n k : Nat} {l : List Brn} {a b t : PyData} {w : Int} {a0 a2 a3 a5 : Option OD}
end
inductive Jd
  | told (s : String)
  | no (s : String) (at_ : PyData)
section
variable {q n k : Nat} {l : List Brn} {a b t : PyData} {w : Int}
end
end Lw
namespace Lw
open PySem L2 PySem.W PySem.SeqAt Eg
section
variable {q n k : Nat} {l : List Brn} {ks : List (Hand × Hand)} {a b t : PyData} {w : Int} {R : List PyData} {a1 a7 a8 a9 : Option OD}
end
end Lw
namespace Lw
open PySem L2 PySem.W PySem.SeqAt Eg
section
variable {q n k : Nat} {l : List Brn} {ks : List (Hand × Hand)} {a b t : PyData} {w : Int} {R : List PyData} {a1 a7 a8 a9 : Option OD}
end
end Lw
namespace Lw
open PySem L2 PySem.W PySem.SeqAt Eg
section
variable {q n k : Nat} {l : List Brn} {ks : List (Hand × Hand)} {t : PyData} {w : Int} {R : List PyData}
variable {tx ty tz : PyData} {a1 a5 a6 a7 a8 a9 : Option OD}
end
end Lw
namespace Lw
open PySem L2 PySem.W PySem.SeqAt Eg
section
variable {q n k : Nat} {l : List Brn} {t d : PyData} {w : Int} {sp : List (Hand × Hand)}
end
end Lw
namespace Lw
open PySem L2 PySem.W PySem.SeqAt Eg
section
variable {nC : Nat} {caps : List (Nat × PyData)} {mb : M OD} {d : PyData} {ρ' : Rho} {a1 a2 a3 a4 : Option OD}
end
end Lw
namespace Lw
open PySem L2 PySem.W PySem.SeqAt Eg
theorem small_intsL {c : List PyData} (hc : ∀ d ∈ c, ∃ i, d = PyData.int i) : small (.list c) = true := by
  have h2 : ∀ c : List PyData, (∀ d ∈ c, ∃ i, d = PyData.int i) → PyData.depthAll c ≤ 5 := fun c => by
    induction c with
    | nil => intro _; simp [PyData.depthAll]
    | cons d c ih =>
      intro h
      obtain ⟨i, rfl⟩ := h d List.mem_cons_self
      have := ih fun e he => h e (List.mem_cons_of_mem _ he)
      simp only [PyData.depthAll, PyData.depth]; omega
  have := h2 c hc
  exact decide_eq_true (by simp only [PyData.depth]; omega)
theorem drawX {xs : List PyData} {n : Nat} {many : Int} (hf : FeedAt xs n) (hn : n < 1000000) (h1 : 0 < many) (h2 : many < 1073741824) :
    ∃ v xs', 0 ≤ v ∧ v < many ∧ FeedAt xs' (n + 1) ∧ fn_draw_2 [some (.ol xs), some (.sh (.int many))] = .ok (.sh (.int v)) [some (.ol xs'), none] := by
  obtain ⟨c, s, r, k, rfl, hc, hs, hk, hkn⟩ := hf
  have h2b : many.natAbs < 2 ^ 31 := by omega
  have fl : ∀ a : Int, gFloorW (.int a) (.int many) = some (.int (a / many)) := fun a => gFloorW_int h1 h2b
  by_cases h : 0 < r
  · refine ⟨r % many, [.list c, .int s, .int (r / many), .int (k + 1)], Int.emod_nonneg _ (Int.ne_of_gt h1), Int.emod_lt_of_pos _ h1, ⟨c, s, _, _, rfl, hc, hs, by omega, by omega⟩, ?_⟩
    unfold fn_draw_2 m_draw_2
    simp?! only [ix4_3, ix4_2, put4_3, put4_2, h, gMod_int h1, fl]
  · have last : ∀ x : Int, ∃ v : Int, 0 ≤ v ∧ v < many ∧ (gPow (.int (x % 2147483549 + 7103 * (k + 1) + 41)) (.int 5) = some (.int ((x % 2147483549 + 7103 * (k + 1) + 41) ^ (5 : Int).toNat))) ∧
        gPow (.int ((x % 2147483549 + 7103 * (k + 1) + 41) ^ (5 : Int).toNat % 2147483629 + 9199 * (k + 1))) (.int 5) = some (.int (((x % 2147483549 + 7103 * (k + 1) + 41) ^ (5 : Int).toNat % 2147483629 + 9199 * (k + 1)) ^ (5 : Int).toNat)) ∧
        v = ((x % 2147483549 + 7103 * (k + 1) + 41) ^ (5 : Int).toNat % 2147483629 + 9199 * (k + 1)) ^ (5 : Int).toNat % 2147483587 / 16 % many := by
      intro x
      have b4 := Int.emod_nonneg ((x % 2147483549 + 7103 * (k + 1) + 41) ^ (5 : Int).toNat) (show (2147483629 : Int) ≠ 0 by decide)
      have b5 := Int.emod_lt_of_pos ((x % 2147483549 + 7103 * (k + 1) + 41) ^ (5 : Int).toNat) (show (0 : Int) < 2147483629 by decide)
      refine ⟨_, Int.emod_nonneg _ (Int.ne_of_gt h1), Int.emod_lt_of_pos _ h1, gPow_int ⟨by decide, by decide, ?_⟩, gPow_int ⟨by decide, by decide, ?_⟩, rfl⟩
      · omega
      · generalize (x % 2147483549 + 7103 * (k + 1) + 41) ^ (5 : Int).toNat % 2147483629 = y at b4 b5
        omega
    have m1 : ∀ a : Int, gMod (.int a) (.int 2147483549) = some (.int (a % 2147483549)) := fun a => gMod_int (by decide)
    have m2' : ∀ a : Int, gMod (.int a) (.int 2147483629) = some (.int (a % 2147483629)) := fun a => gMod_int (by decide)
    have m3 : ∀ a : Int, gMod (.int a) (.int 2147483587) = some (.int (a % 2147483587)) := fun a => gMod_int (by decide)
    have m4 : ∀ a : Int, gFloorW (.int a) (.int 16) = some (.int (a / 16)) := fun a => gFloorW_int (b := 10) (by decide) (by decide)
    have m5 : aMulT (.int 7103) (.int (k + 1)) = some (.sh (.int (7103 * (k + 1)))) := aMulT_int (a := 40) (b := 40) (by decide) (by omega)
    have m6 : aMulT (.int 9199) (.int (k + 1)) = some (.sh (.int (9199 * (k + 1)))) := aMulT_int (a := 40) (b := 40) (by decide) (by omega)
    have p1 : gPow (.int 10) (.int 18) = some (.int (10 ^ (18 : Int).toNat)) := gPow_int (by decide)
    have nn := ne_list_nil (small_intsL hc)
    by_cases hc0 : 0 < (c.length : Int)
    · have ne : c.isEmpty = false := by cases c with | nil => cases hc0 | cons a b => rfl
      rw [ne] at nn
      obtain ⟨x, ex⟩ := cell_at (s := s) hc hc0
      have mm := gMod_int (a := s) hc0
      obtain ⟨v, v1, v2, e1, e3, ev⟩ := last x
      by_cases hx : (10 : Int) ^ (18 : Int).toNat ≤ x
      · by_cases hb : s + 1 ≤ (c.length : Int)
        · refine ⟨x % many, [.list c, .int (s + 1), .int (x / many), .int (k + 1)], Int.emod_nonneg x (Int.ne_of_gt h1), Int.emod_lt_of_pos _ h1, ⟨c, _, _, _, rfl, hc, by omega, by omega, by omega⟩, ?_⟩
          unfold fn_draw_2 m_draw_2
          simp?! only [ix4_3, ix4_2, ix4_1, ix4_0, put4_3, put4_2, put4_1, h, gMod_int h1, fl, nn, ex, mm, hb, hx, p1]
        · refine ⟨v, [.list c, .int (s + 1), .int r, .int (k + 1)], v1, v2, ⟨c, _, _, _, rfl, hc, by omega, by omega, by omega⟩, ?_⟩
          rw [ev]
          unfold fn_draw_2 m_draw_2
          simp?! only [ix4_3, ix4_2, ix4_1, ix4_0, put4_3, put4_2, put4_1, h, gMod_int h1, nn, ex, mm, hb, hx, p1, m1, m2', m3, m4, m5, m6, e1, e3]
      · refine ⟨v, [.list c, .int (s + 1), .int r, .int (k + 1)], v1, v2, ⟨c, _, _, _, rfl, hc, by omega, by omega, by omega⟩, ?_⟩
        rw [ev]
        unfold fn_draw_2 m_draw_2
        simp?! only [ix4_3, ix4_2, ix4_1, ix4_0, put4_3, put4_2, put4_1, h, gMod_int h1, nn, ex, mm, hx, p1, m1, m2', m3, m4, m5, m6, e1, e3]
    · have ne : c.isEmpty = true := by cases c with | nil => rfl | cons a b => simp at hc0
      rw [ne] at nn
      obtain ⟨v, v1, v2, e1, e3, ev⟩ := last 0
      have hx : ¬ (10 : Int) ^ (18 : Int).toNat ≤ 0 := by decide
      refine ⟨v, [.list c, .int (s + 1), .int r, .int (k + 1)], v1, v2, ⟨c, _, _, _, rfl, hc, by omega, by omega, by omega⟩, ?_⟩
      rw [ev]
      unfold fn_draw_2 m_draw_2
      simp?! only [ix4_3, ix4_2, ix4_1, ix4_0, put4_3, put4_2, put4_1, h, gMod_int h1, nn, hx, p1, m1, m2', m3, m4, m5, m6, e1, e3]
theorem source_new (ns : List Int) : ∃ xs, FeedAt xs 0 ∧ fn_source [some (.sc ns)] = .ok (.ol xs) [none] := by
  refine ⟨[.list (cutD (ns.map .int) none (some 63)), .int 0, .int 0, .int 0], ⟨_, _, _, _, rfl, fun d hd => ?_, Int.le_refl _, Int.le_refl _, Int.le_refl _⟩, ?_⟩
  · obtain ⟨i, _, rfl⟩ := List.mem_map.mp (List.mem_of_mem_drop (List.mem_of_mem_take hd))
    exact ⟨i, rfl⟩
  · unfold fn_source m_source
    simp?! only [v_pt63, v_scr, v_scrk]
end Lw
namespace Lw
open PySem L2 PySem.W PySem.SeqAt Eg
theorem er_map {α β : Type} (f : α → β) : ∀ (l : List α) (i : Nat), (l.map f).eraseIdx i = (l.eraseIdx i).map f
  | [], _ => by simp
  | _ :: _, 0 => rfl
  | x :: l, i + 1 => by rw [List.map_cons, List.eraseIdx_cons_succ, List.eraseIdx_cons_succ, List.map_cons, er_map f l i]
theorem er_perm {α : Type} : ∀ {l : List α} {i : Nat} {x : α}, l[i]? = some x → l.Perm (x :: l.eraseIdx i)
  | [], _, _, h => by simp at h
  | y :: l, 0, x, h => by
    simp only [List.getElem?_cons_zero, Option.some.injEq] at h
    rw [h]; exact .refl _
  | y :: l, i + 1, x, h => by
    rw [List.getElem?_cons_succ] at h
    rw [List.eraseIdx_cons_succ]
    exact ((er_perm h).cons y).trans (.swap _ _ _)
theorem some_step {xs F : List PyData} {n : Nat} {L : List Hand} {a1 a2 a5 : Option OD} (hf : FeedAt xs n) (hn : n < 900000) (hL : 0 < L.length) (hL2 : L.length < 1000) (hF : F.length < 1000) :
    ∃ y L' xs', y ∈ L ∧ (L.Perm (y :: L')) ∧ FeedAt xs' (n + 1) ∧ m_some_b1 [some (.ol xs), a1, a2, some (.ol (L.map hd)), some (.ol F), a5] = .ok .nx [some (.ol xs'), a1, a2, some (.ol (L'.map hd)), some (.ol (F ++ [hd y])), a5] := by
  have z := sizeLine_eq
  obtain ⟨v, xs', v0, v1, f1, e1⟩ := drawX (many := (L.length : Int)) hf (by omega) (by omega) (by omega)
  have glen : gLen [.list (L.map hd)] = some (.sh (.int (L.length : Int))) := by rw [gLen_any, List.length_map]
  have v1' : v < ((L.map hd).length : Int) := by rw [List.length_map]; exact v1
  obtain ⟨y, ey, ep⟩ := v_popk (i := 3) v0 v1' (by rw [List.length_map]; omega)
  obtain ⟨h, hh, rfl⟩ : ∃ h, L[v.toNat]? = some h ∧ hd h = y := by
    rw [List.getElem?_map] at ey
    cases q : L[v.toNat]? with
    | none => rw [q] at ey; cases ey
    | some h => rw [q] at ey; cases ey; exact ⟨h, rfl, rfl⟩
  have em : (L.map hd).eraseIdx v.toNat = (L.eraseIdx v.toNat).map hd := er_map _ _ _
  rw [em] at ep
  refine ⟨h, L.eraseIdx v.toNat, xs', List.mem_of_getElem? hh, ?_, f1, ?_⟩
  · exact er_perm hh
  · have hF2 : F.length < sizeLine := by omega
    unfold m_some_b1
    simp?! only [glen, e1, v_pop, ep, hF2]
def folk : List Hand := [(Str.ofString "elm", Str.ofString "a"), (Str.ofString "elm", Str.ofString "bo"), (Str.ofString "oak", Str.ofString "a"), (Str.ofString "oak", Str.ofString "z")]
end Lw
namespace Lw
open PySem L2 PySem.W PySem.SeqAt Eg
def titlesL : List (Str × Int × Int) := [(Str.ofString "elm", 0, 0), (Str.ofString "elm", 0, 1), (Str.ofString "elm", 2, 0), (Str.ofString "oak", 0, 0)]
def tiD (x : Str × Int × Int) : PyData := .tuple [.str x.1, .int x.2.1, .int x.2.2]
structure BrF (x : Brn) : Prop where
  p1 : x.p.1 ∈ folk
  p2 : x.p.2 ∈ folk
  lt : lt x.p.1 x.p.2 = true
  o : (x.o, x.a, x.b) ∈ titlesL
  d0 : 0 ≤ x.d
  d1 : x.d < 30
theorem map_choose {α : Type} {f : α → PyData} : ∀ {R : List PyData}, (∀ x ∈ R, ∃ p, x = f p) → ∃ ps : List α, R = ps.map f
  | [], _ => ⟨[], rfl⟩
  | x :: R, h => by
    obtain ⟨p, rfl⟩ := h x List.mem_cons_self
    obtain ⟨ps, rfl⟩ := map_choose fun y hy => h y (List.mem_cons_of_mem _ hy)
    exact ⟨p :: ps, rfl⟩
end Lw
namespace Lw
open PySem L2 PySem.W PySem.SeqAt Eg
theorem rng1_natX {j : Int} (h0 : 0 ≤ j) (h : j < 1000000) : rng1 [.int j] = some ((List.range j.toNat).map fun i : Nat => PyData.int (i : Int)) := by
  simp only [rng1]
  rw [if_pos (by omega)]
  unfold rngD
  congr 1
  exact List.map_congr_left fun i _ => by simp
theorem pact_new {xs : List PyData} {n : Nat} (hf : FeedAt xs n) (hn : n < 700000) :
    ∃ (a b w : Int) (xs' : List PyData), 2 ≤ a ∧ a ≤ 5 ∧ 0 ≤ b ∧ b ≤ 10 ∧ 1 ≤ w ∧ w ≤ 9 ∧ FeedAt xs' (n + 3) ∧ fn_pact [some (.ol xs)] = .ok (.sh (.tuple [.tuple [.str (Str.ofString "elm"), .str (Str.ofString "oak")], .int a, .int b, .int w])) [some (.ol xs')] := by
  obtain ⟨v1, xs1, v10, v11, f1, e1⟩ := drawX (many := 4) hf (by omega) (by decide) (by decide)
  have d2 : ∀ a : Int, gFloorW (.int a) (.int 2) = some (.int (a / 2)) := fun a => gFloorW_int (b := 10) (by decide) (by decide)
  obtain ⟨v2, xs2, v20, v21, f2, e2⟩ := drawX (many := 2 + v1 - (2 + v1) / 2) f1 (by omega) (by omega) (by omega)
  obtain ⟨v3, xs3, v30, v31, f3, e3⟩ := drawX (many := 9) f2 (by omega) (by decide) (by decide)
  refine ⟨2 + v1, (2 + v1) / 2 + 1 + v2, 1 + v3, xs3, by omega, by omega, by omega, by omega, by omega, by omega, f3, ?_⟩
  unfold fn_pact m_pact
  simp?! only [e1, e2, e3, d2]
end Lw
namespace Lw
open PySem L2 PySem.W PySem.SeqAt Eg
section
variable {l : List Brn} {w : Int} {a0 a3 a4 : Option OD}
end
end Lw
namespace Lw
open PySem L2 PySem.W PySem.SeqAt Eg
section
variable {M : List PyData}
end
end Lw
namespace Lw
open PySem L2 PySem.W PySem.SeqAt Eg
theorem Ths.all {q n k : Nat} (hq : q ≤ 400) : ∀ {ds : List PyData}, (∀ d ∈ ds, Th q n k d) → Ths q (ds.length * (n + 2)) k ds
  | [], _ => (Ths.nil (n := 0) hq).mono (by omega) (Nat.le_refl _) (Nat.le_refl _) hq
  | d :: ds, h => by
    have := Ths.cons (h d List.mem_cons_self) (Ths.all hq fun e he => h e (List.mem_cons_of_mem _ he))
    refine this.mono ?_ (Nat.le_refl _) (Nat.le_refl _) hq
    rw [List.length_cons, Nat.add_mul]; omega
theorem folk_th : ∀ a ∈ folk, ∀ b ∈ folk, thB 40 100 3 (pd (a, b)) = true := by decide +kernel
theorem titles_th : ∀ t ∈ titlesL, thB 40 100 3 (tiD t) = true := by decide +kernel
theorem day_th {i : Int} (h0 : 0 ≤ i) (h1 : i < 30) : Th 40 3 0 (.int i) := Th.int (n := 2) (by omega) (by decide) (by decide)
theorem BrF.thP {x : Brn} (h : BrF x) : Th 40 100 3 (pd x.p) := Th.ofB (folk_th _ h.p1 _ h.p2) (by decide)
theorem BrF.th {x : Brn} (h : BrF x) : Th 40 300 4 (brD x) := by
  have t1 := h.thP
  have t2 : Th 40 100 3 (tiD (x.o, x.a, x.b)) := Th.ofB (titles_th _ h.o) (by decide)
  have t3 := (day_th h.d0 h.d1).mono (n' := 3) (k' := 3) (m' := 40) (Nat.le_refl _) (by omega)
  exact (Ths.cons t1 (Ths.cons t2 (Ths.cons t3 (Ths.nil (n := 0) (by decide))))).tup.mono (by omega) (by omega)
section
variable {l : List Brn} {sp : List (Hand × Hand)}
end
end Lw
namespace Lw
open PySem L2 PySem.W PySem.SeqAt Eg
theorem rep_th {q n k : Nat} {d : PyData} (h : Th q n k d) (hn : n ≤ 100000) (hk : k ≤ 60) : gRepr [d] = some (.sh (.str d.shown)) := (h.fd).1.repr (by omega) hk
theorem folk_smp : ∀ a ∈ folk, ∀ b ∈ folk, smp (pd (a, b)) = true := by decide +kernel
theorem titles_smp : ∀ t ∈ titlesL, smp (tiD t) = true := by decide +kernel
theorem BrF.smp {x : Brn} (h : BrF x) : smp (brD x) = true := by
  have h1 := folk_smp _ h.p1 _ h.p2
  have h2 := titles_smp _ h.o
  show smps [pd x.p, tiD (x.o, x.a, x.b), .int x.d] = true
  rw [smps, smps, smps, smps, h1, h2]
  rfl
structure BrS (x : Brn) : Prop where
  smp : smp (brD x) = true
  th : Th 40 300 4 (brD x)
theorem BrF.s {x : Brn} (h : BrF x) : BrS x := ⟨h.smp, h.th⟩
section
variable {q n k : Nat} {l : List Brn} {a b : PyData} {w : Int}
end
end Lw
namespace Lw
open PySem L2 PySem.W PySem.SeqAt Eg
section
variable {l : List Brn} {w : Int} {ns : List Int} {a0 a2 a3 a4 a5 a9 a10 a11 c8 : Option OD} {j : Int}
end
end Lw
namespace Lw
open PySem L2 PySem.W PySem.SeqAt Eg
section
variable {q n k : Nat} {l : List Brn} {sp : List (Hand × Hand)} {a b : PyData} {w : Int} {R : List PyData}
variable {B : PyData} {c7 c8 a9 a10 a11 : Option OD}
end
end Lw
namespace Lw
open PySem L2 PySem.W PySem.SeqAt Eg
section
variable {q n k : Nat} {l : List Brn} {sp : List (Hand × Hand)} {w : Int} {R : List PyData}
variable {B : PyData} {a9 a10 a11 : Option OD}
end
end Lw
namespace Lw
open PySem L2 PySem.W PySem.SeqAt Eg
section
variable {q n k : Nat} {l : List Brn} {sp : List (Hand × Hand)} {w : Int} {R : List PyData}
end
end Lw
namespace Lw
open PySem L2 PySem.W PySem.SeqAt Eg
section
variable {q n k : Nat} {l : List Brn} {sp : List (Hand × Hand)} {w : Int} {d : PyData}
end
end Lw
namespace Lw
open PySem L2 PySem.W PySem.SeqAt Eg
section
variable {M : List PyData} {W KM : Nat}
end
end Lw
namespace Lw
open PySem L2 PySem.W PySem.SeqAt Eg
section
variable {l : List Brn} {sp : List (Hand × Hand)}
variable {a0 a1 a2 a5 a6 a7 a10 a12 a13 a14 a15 : Option OD} {D I : List PyData} {at_ : Int} {p m : PyData}
end
end Lw
namespace Lw
open PySem L2 PySem.W PySem.SeqAt Eg
section
variable {l : List Brn} {sp : List (Hand × Hand)}
variable {a0 a1 a2 a5 a6 a7 a12 a13 a14 a15 : Option OD} {D I : List PyData} {at_ w : Int} {p tx ty tz : PyData}
end
end Lw
namespace Lw
open PySem L2 PySem.W PySem.SeqAt Eg
section
variable {l : List Brn} {sp : List (Hand × Hand)}
variable {a0 a2 a5 a6 a7 a12 a13 a14 a15 : Option OD} {I : List PyData} {at_ w : Int} {tx ty tz : PyData}
variable {a1 a9 a10 a11 c13 c14 : Option OD} {one : PyData} {J : List PyData}
end
end Lw
namespace Lw
open PySem L2 PySem.W PySem.SeqAt Eg
section
variable {l : List Brn} {sp : List (Hand × Hand)} {w : Int}
def f1 (l : List Brn) (sp : List (Hand × Hand)) (at_ : Int) (r : PyData) : List PyData := [r, .tuple [.str (Str.ofString "apart"), .tuple (rowsD l sp)], .tuple [.str (Str.ofString "apart"), .tuple (cutD (rowsD l sp) none (some at_) ++ cutD (rowsD l sp) (some (at_ + 1)) none)], .tuple [.str (Str.ofString "apart"), .tuple ((rowsD l sp).reverse)]]
def f2 (l : List Brn) (sp : List (Hand × Hand)) (one other : PyData) : List PyData := [.tuple [.str (Str.ofString "apart"), .tuple (rowsD l sp ++ cutD (rowsD l sp) none (some 1))], .tuple [.str (Str.ofString "twice"), one, other], .tuple [.str (Str.ofString "twice"), other, one], .tuple [.str (Str.ofString "twice"), one, one]]
def f3 : List PyData := [.tuple [.str (Str.ofString "apart"), .tuple []], .tuple [.str (Str.ofString "apart")]]
end
end Lw
namespace Lw
open PySem L2 PySem.W PySem.SeqAt Eg
section
variable {l : List Brn} {t : PyData} {w : Int} {a0 a1 a3 a4 a5 a7 a8 c0 : Option OD}
end
end Lw
namespace Lw
open PySem L2 PySem.W PySem.SeqAt Eg
section
variable {l : List Brn} {sp : List (Hand × Hand)} {w : Int}
end
end Lw
namespace Lw
open PySem L2 PySem.W PySem.SeqAt Eg
end Lw
namespace Lw
open PySem L2 PySem.W PySem.SeqAt Eg
def towns20 : List Str := [Str.ofString "ash", Str.ofString "elm", Str.ofString "fir", Str.ofString "oak"]
def words20 : List Str := [Str.ofString "a", Str.ofString "ann", Str.ofString "b", Str.ofString "bob", Str.ofString "cy", Str.ofString "zzzzzzzz"]
def at20 (p : Str) : List Hand := words20.map fun w => (p, w)
def all20 : List Hand := towns20.flatMap at20
end Lw
namespace Lw
open PySem L2 PySem.W PySem.SeqAt Eg
theorem gSorted_hds {l : List Hand} (h : l.length ≤ 1000) : gSorted [.list (l.map hd)] = some (.ol ((sortH l).map hd)) := by
  have z := sortOk_hd l h
  rw [← sortH_map]
  simp only [gSorted]
  rw [if_pos z]
theorem er_len {α : Type} {l : List α} {i : Nat} (h : i < l.length) : (l.eraseIdx i).length + 1 = l.length := by
  rw [List.length_eraseIdx, if_pos h]; omega
end Lw
namespace Lw
open PySem L2 PySem.W PySem.SeqAt Eg
abbrev Ti := Str × Int × Int
theorem ti_alike (a b : Ti) : alike (tiD a) (tiD b) = true := by simp [tiD, alike, alikeAll]
theorem ti_small (a : Ti) : small (tiD a) = true := by simp [tiD, small, PyData.depth, PyData.depthAll]
theorem ti_key (a : Ti) : keyB (tiD a) = true := by simp [tiD, keyB, keyBs]
theorem ti_inj {a b : Ti} (h : tiD a = tiD b) : a = b := by
  obtain ⟨o, x, y⟩ := a
  obtain ⟨o', x', y'⟩ := b
  simp only [tiD, PyData.tuple.injEq, List.cons.injEq, PyData.str.injEq, PyData.int.injEq, and_true] at h
  obtain ⟨h2, h3, h4⟩ := h
  subst h2 h3 h4
  rfl
theorem ti_eqv (a b : Ti) : PyData.eqv (tiD a) (tiD b) = decide (a = b) := by
  rw [Bool.eq_iff_iff, decide_eq_true_iff, eqv_key (ti_alike a b) (ti_key a) (ti_key b)]
  exact ⟨ti_inj, fun h => by rw [h]⟩
theorem gEq_ti (a b : Ti) : gEq (tiD a) (tiD b) = some (.bool (decide (a = b))) := by
  unfold gEq
  rw [if_pos (ti_small a), ti_eqv]
theorem gNotIn_ti (l : List Ti) (x : Ti) : gNotIn (tiD x) (.list (l.map tiD)) = some (.bool (!decide (x ∈ l))) := by
  have e : ((l.map tiD).any fun y => PyData.eqv y (tiD x)) = decide (x ∈ l) := by
    rw [List.any_map, Bool.eq_iff_iff, List.any_eq_true, decide_eq_true_iff]
    constructor
    · rintro ⟨y, hy, q⟩
      have q : PyData.eqv (tiD y) (tiD x) = true := q
      rw [ti_eqv] at q
      rw [← of_decide_eq_true q]; exact hy
    · exact fun h => ⟨x, h, by show PyData.eqv (tiD x) (tiD x) = true; rw [ti_eqv]; exact decide_eq_true rfl⟩
  rw [← e]
  show (if small (tiD x) = true then some (PyData.bool (!((l.map tiD).any fun y => PyData.eqv y (tiD x)))) else none) = _
  rw [if_pos (ti_small x)]
end Lw
namespace Lw
open PySem L2 PySem.W PySem.SeqAt Eg
structure Cz where
  tag : Ti
  under : Option Ti
  vs : List Hand
  en : PyData
def unD : Option Ti → PyData
  | none => .none
  | some t => tiD t
def ends20 : List PyData := [.str (Str.ofString "yes"), .str (Str.ofString "no"), .str (Str.ofString "no"), .str (Str.ofString "laid"), .str (Str.ofString "broken"), .none]
structure CzF (c : Cz) : Prop where
  vs : ∀ h ∈ c.vs, h ∈ all20
  vl : c.vs.length ≤ 3
  en : c.en ∈ ends20
def findC (L : List Cz) (t : Ti) : Option Cz := L.find? fun c => decide (c.tag = t)
section
variable {L : List Cz} {t : Ti}
end
end Lw
namespace Lw
open PySem L2 PySem.W PySem.SeqAt Eg
inductive Way (L : List Cz) : Option Ti → List Cz → Prop
  | nil : Way L none []
  | cons {t : Ti} {c : Cz} {w : List Cz} : findC L t = some c → Way L c.under w → Way L (some t) (c :: w)
section
variable {L : List Cz} {u : Option Ti} {w : List Cz} {t : Ti}
theorem findC_tag {c : Cz} (h : findC L t = some c) : c.tag = t := of_decide_eq_true (List.find?_some (p := fun c : Cz => decide (c.tag = t)) h)
theorem findC_mem {c : Cz} (h : findC L t = some c) : c ∈ L := List.mem_of_find?_eq_some h
theorem Way.mem (h : Way L u w) : ∀ c ∈ w, c ∈ L ∧ findC L c.tag = some c := by
  induction h with
  | nil => intro c hc; cases hc
  | cons hf _ ih =>
    intro c hc
    rcases List.mem_cons.mp hc with rfl | hc
    · exact ⟨findC_mem hf, by rw [findC_tag hf]; exact hf⟩
    · exact ih c hc
theorem gNotN_un (u : Option Ti) : gNotN (unD u) = some (.bool u.isSome) := by cases u <;> rfl
end
end Lw
namespace Lw
open PySem L2 PySem.W PySem.SeqAt Eg
end Lw
namespace Lw
open PySem L2 PySem.W PySem.SeqAt Eg
end Lw
namespace Lw
open PySem L2 PySem.W PySem.SeqAt Eg
def heads (l : List Hand) : List PyData := sortD (once (l.map hd))
section
variable {L : List Cz} {u : Option Ti} {w : List Cz} {t : Ti}
end
end Lw
namespace Lw
open PySem L2 PySem.W PySem.SeqAt Eg
def names20 : List Str := [Str.ofString "ash", Str.ofString "elm", Str.ofString "zz"]
structure TiF (t : Ti) : Prop where
  o : t.1 ∈ names20
  a0 : 0 ≤ t.2.1
  a1 : t.2.1 < 3
  b0 : 0 ≤ t.2.2
  b1 : t.2.2 < 4
def wayOf (L : List Cz) : Nat → Option Ti → List Cz
  | 0, _ => []
  | _, none => []
  | n + 1, some t => match findC L t with
    | some c => c :: wayOf L n c.under
    | none => []
theorem wayOf_eq {L : List Cz} {u : Option Ti} {w : List Cz} (h : Way L u w) : ∀ n, w.length ≤ n → wayOf L n u = w := by
  induction h with
  | nil => intro n _; cases n <;> rfl
  | @cons t c w hf _ ih =>
    intro n hn
    cases n with
    | zero => cases hn
    | succ n =>
      rw [List.length_cons] at hn
      show (match findC L t with | some c => c :: wayOf L n c.under | none => []) = _
      rw [hf]
      show c :: wayOf L n c.under = _
      rw [ih n (by omega)]
theorem findC_more {L : List Cz} {t : Ti} {c c' : Cz} (h : findC L t = some c) : findC (L ++ [c']) t = some c := by
  unfold findC at h ⊢
  rw [List.find?_append, h]
  rfl
theorem findC_new {L : List Cz} {c' : Cz} (h : findC L c'.tag = none) : findC (L ++ [c']) c'.tag = some c' := by
  unfold findC at h ⊢
  rw [List.find?_append, h, List.find?_cons, decide_eq_true rfl]
  rfl
theorem Way.more {L : List Cz} {u : Option Ti} {w : List Cz} {c' : Cz} (h : Way L u w) : Way (L ++ [c']) u w := by
  induction h with
  | nil => exact .nil
  | cons hf _ ih => exact .cons (findC_more hf) ih
structure Good20 (L : List Cz) : Prop where
  f : ∀ c ∈ L, CzF c
  t : ∀ c ∈ L, TiF c.tag
  w : ∀ c ∈ L, ∃ w, Way L (some c.tag) w ∧ w.length ≤ 4
  u : ∀ c ∈ L, ∀ s, c.under = some s → TiF s
def shortB (L : List Cz) (c : Cz) : Bool := decide ((wayOf L 10 (some c.tag)).length < 4)
theorem Good20.add {L : List Cz} {c : Cz} (h : Good20 L) (hf : CzF c) (ht : TiF c.tag) (hu : c.under = none ∨ ∃ c1 ∈ L, shortB L c1 = true ∧ c.under = some c1.tag) : Good20 (L ++ [c]) := by
  refine ⟨fun d hd => ?_, fun d hd => ?_, fun d hd => ?_, fun d hd s hs => ?_⟩
  · rcases List.mem_append.mp hd with q | q
    · exact h.f d q
    · rw [List.mem_singleton.mp q]; exact hf
  · rcases List.mem_append.mp hd with q | q
    · exact h.t d q
    · rw [List.mem_singleton.mp q]; exact ht
  · rcases List.mem_append.mp hd with q | q
    · obtain ⟨w, h1, h2⟩ := h.w d q
      exact ⟨w, h1.more, h2⟩
    · rw [List.mem_singleton.mp q]
      cases e : findC L c.tag with
      | some c0 =>
        obtain ⟨w, h1, h2⟩ := h.w c0 (findC_mem e)
        rw [findC_tag e] at h1
        exact ⟨w, h1.more, h2⟩
      | none =>
        rcases hu with hu | ⟨c1, h1, h2, hu⟩
        · exact ⟨[c], .cons (findC_new e) (by rw [hu]; exact .nil), by rw [List.length_singleton]; omega⟩
        · obtain ⟨w, w1, w2⟩ := h.w c1 h1
          have := of_decide_eq_true h2
          rw [wayOf_eq w1 10 (by omega)] at this
          exact ⟨c :: w, .cons (findC_new e) (by rw [hu]; exact w1.more), by rw [List.length_cons]; omega⟩
  · rcases List.mem_append.mp hd with q | q
    · exact h.u d q s hs
    · rw [List.mem_singleton.mp q] at hs
      rcases hu with hu | ⟨c1, h1, _, hu⟩
      · rw [hu] at hs; cases hs
      · rw [hu] at hs; cases hs; exact h.t c1 h1
end Lw
namespace Lw
open PySem L2 PySem.W PySem.SeqAt Eg
end Lw
namespace Lw
open PySem L2 PySem.W PySem.SeqAt Eg
section
variable {caps : List (Nat × PyData)} {nC : Nat} {mb : M OD} {t : Ti} {ρ' : Rho}
end
end Lw
namespace Lw
open PySem L2 PySem.W PySem.SeqAt Eg
theorem names20_th : ∀ o ∈ names20, thB 40 16 0 (.str o) = true := by decide +kernel
theorem TiF.th {t : Ti} (h : TiF t) : Th 40 40 1 (tiD t) := by
  have h1 := Th.ofB (names20_th _ h.o) (show 40 ≤ 400 by decide)
  have h2 : Th 40 3 0 (.int t.2.1) := Th.int (m := 40) (n := 2) (by have := h.a0; have := h.a1; omega) (by decide) (by decide)
  have h3 : Th 40 3 0 (.int t.2.2) := Th.int (m := 40) (n := 2) (by have := h.b0; have := h.b1; omega) (by decide) (by decide)
  exact (Ths.cons h1 (Ths.cons h2 (Ths.cons h3 (Ths.nil (n := 0) (by decide))))).tup.mono (by omega) (by omega)
theorem heads_mem {l : List Hand} {d : PyData} (h : d ∈ heads l) : ∃ x ∈ l, d = hd x := by
  have := once_mem (List.mem_mergeSort.mp h)
  obtain ⟨x, hx, e⟩ := List.mem_map.mp this
  exact ⟨x, hx, e.symm⟩
section
variable {L : List Cz} {w : List Cz} {t : Ti}
theorem last20 {ds : List PyData} {d : PyData} : gIx (.list (ds ++ [d])) (.int (-1)) = some d ∧ gIx (.tuple (ds ++ [d])) (.int (-1)) = some d := by
  have h := ix_last (ds := ds ++ [d]) (d := d) (by simp)
  exact ⟨h, h⟩
end
end Lw
namespace Lw
open PySem L2 PySem.W PySem.SeqAt Eg
section
variable {L : List Cz} {t : Ti} {a0 a1 a2 a3 a5 a6 a7 a8 a9 a10 a11 a12 : Option OD}
def tN : Ti := (Str.ofString "nowhere", 0, 0)
end
end Lw
namespace Lw
open PySem L2 PySem.W PySem.SeqAt Eg
structure Cs where
  tag : Ti
  under : Option Ti
  s : PyData
  vs : List Hand
  p : PyData
  v : PyData
  en : PyData
def csD (c : Cs) : PyData := .tuple [tiD c.tag, unD c.under, c.s, .tuple (c.vs.map hd), c.p, c.v, c.en]
def casD (L : List Cs) : PyData := .tuple (L.map csD)
def ends37 : List PyData := [.str (Str.ofString "yes"), .str (Str.ofString "no"), .none, .str (Str.ofString "laid"), .str (Str.ofString "broken")]
def folk37 : List Hand := [(Str.ofString "elm", Str.ofString "a"), (Str.ofString "elm", Str.ofString "bo"), (Str.ofString "elm", Str.ofString "z"), (Str.ofString "oak", Str.ofString "a"), (Str.ofString "oak", Str.ofString "cy"), (Str.ofString "oak", Str.ofString "zz")]
structure CsF (c : Cs) : Prop where
  s : Th 40 400 2 c.s
  p : Th 40 1500 4 c.p
  v : Th 40 500 3 c.v
  vs : ∀ h ∈ c.vs, h ∈ folk37
  vl : c.vs.length ≤ 20
  en : c.en ∈ ends37
def findS (L : List Cs) (t : Ti) : Option Cs := L.find? fun c => decide (c.tag = t)
theorem ends37_th : ∀ d ∈ ends37, thB 40 20 0 d = true := by decide +kernel
theorem folk37_th : ∀ h ∈ folk37, thB 40 40 1 (hd h) = true := by decide +kernel
theorem gIx_cs0 (c : Cs) : gIx (csD c) (.int 0) = some (tiD c.tag) := rfl
theorem gIx_cs1 (c : Cs) : gIx (csD c) (.int 1) = some (unD c.under) := rfl
theorem gIx_cs6 (c : Cs) : gIx (csD c) (.int 6) = some c.en := rfl
section
variable {L : List Cs} {t : Ti}
theorem find37 (hl : L.length ≤ 1000) {c : Cs} (hf : findS L t = some c) : fn_find [some (.sh (casD L)), some (.sh (tiD t))] = .ok (.sh (csD c)) [none, none] := by
  have z := sizeLine_eq
  have ec : mComp ((mName 0).bind seqItems) (tName 2) (m_find_t2) (m_find_e1) [2] [some (.sh (casD L)), some (.sh (tiD t)), none] =
      .ok (.ol ((L.filter fun c => decide (c.tag = t)).map csD)) [some (.sh (casD L)), some (.sh (tiD t)), none] := by
    refine comp_filt (f := csD) (fun c => decide (c.tag = t)) csD (by unfold casD; simp?! only []) (by omega) fun c _ => ⟨[some (.sh (casD L)), some (.sh (tiD t)), some (.sh (csD c))], [some (.sh (casD L)), some (.sh (tiD t)), some (.sh (csD c))], rfl, ?_, rfl, fun h => ⟨_, rfl, rfl⟩⟩
    have g0 := gIx_cs0 c
    have ge := gEq_ti c.tag t
    unfold m_find_t2
    simp?! only [g0, ge]
  have hh : findS L t = (L.filter fun c => decide (c.tag = t)).head? := by unfold findS; rw [List.head?_filter]
  cases q : (L.filter fun c => decide (c.tag = t)) with
  | nil => rw [hf, q] at hh; cases hh
  | cons c' cs =>
    rw [hf, q] at hh
    cases hh
    rw [q] at ec
    have ec : mComp ((mName 0).bind seqItems) (tName 2) (m_find_t2) (m_find_e1) [2] [some (.sh (casD L)), some (.sh (tiD t)), none] = .ok (.ol (csD c :: cs.map csD)) [some (.sh (casD L)), some (.sh (tiD t)), none] := ec
    have g0 : gIx (.list (csD c :: cs.map csD)) (.int 0) = some (csD c) := by
      obtain ⟨A, e, B, e2, el, _, _, _, h⟩ := split_at (ds := csD c :: cs.map csD) (v := 0) (by decide) (by rw [List.length_cons]; omega)
      have : A = [] := by rw [← el]; rfl
      subst this
      cases e2
      exact h
    unfold fn_find m_find
    simp?! only [ec, g0]
end
end Lw
namespace Lw
open PySem L2 PySem.W PySem.SeqAt Eg
inductive WayS (L : List Cs) : Option Ti → List Cs → Prop
  | nil : WayS L none []
  | cons {t : Ti} {c : Cs} {w : List Cs} : findS L t = some c → WayS L c.under w → WayS L (some t) (c :: w)
section
variable {L : List Cs} {u : Option Ti} {w : List Cs} {t : Ti}
def wayS (w : List Cs) : List PyData := w.map fun c => tiD c.tag
theorem findS_tag {c : Cs} (h : findS L t = some c) : c.tag = t := of_decide_eq_true (List.find?_some (p := fun c : Cs => decide (c.tag = t)) h)
theorem findS_mem {c : Cs} (h : findS L t = some c) : c ∈ L := List.mem_of_find?_eq_some h
theorem WayS.mem (h : WayS L u w) : ∀ c ∈ w, c ∈ L ∧ findS L c.tag = some c := by
  induction h with
  | nil => intro c hc; cases hc
  | cons hf _ ih =>
    intro c hc
    rcases List.mem_cons.mp hc with rfl | hc
    · exact ⟨findS_mem hf, by rw [findS_tag hf]; exact hf⟩
    · exact ih c hc
end
end Lw
namespace Lw
open PySem L2 PySem.W PySem.SeqAt Eg
section
variable {L : List Cs} {u : Option Ti} {w : List Cs} {t : Ti}
def voicesS (w : List Cs) : List Hand := w.flatMap (·.vs)
end
end Lw
namespace Lw
open PySem L2 PySem.W PySem.SeqAt Eg
def ysD : PyData := .str (Str.ofString "yes")
def noD : PyData := .str (Str.ofString "no")
def isV : PyData → Bool
  | .str s => decide (s = Str.ofString "yes") || decide (s = Str.ofString "no")
  | _ => false
def ownV (c : Cs) : Option PyData := if isV c.en = true then some c.en else none
def stD : List Cs → Ti → Option PyData
  | [], _ => none
  | c :: S, t => if t = c.tag then (stD S c.tag).or (ownV c) else if c.under = some t then (stD S t).or ((stD S c.tag).or (ownV c)) else stD S t
inductive Lined : List Ti → List Cs → Prop
  | nil {P : List Ti} : Lined P []
  | cons {P : List Ti} {c : Cs} {S : List Cs} : c.tag ∉ P → (∀ u, c.under = some u → u ∈ P) → Lined (P ++ [c.tag]) S → Lined P (c :: S)
theorem Lined.tag {P : List Ti} {S : List Cs} (h : Lined P S) : ∀ c ∈ S, c.tag ∉ P := by
  induction h with
  | nil => intro c hc; cases hc
  | cons h1 _ _ ih =>
    intro d hd
    rcases List.mem_cons.mp hd with rfl | hd
    · exact h1
    · exact fun z => ih d hd (List.mem_append.mpr (.inl z))
theorem stD_in {P : List Ti} {c : Cs} : ∀ {A S : List Cs}, Lined P (A ++ c :: S) → stD (A ++ c :: S) c.tag = stD (c :: S) c.tag
  | [], _, _ => rfl
  | a :: A, S, h => by
    cases h with
    | @cons _ _ _ h1 h2 h3 =>
      have n1 : c.tag ≠ a.tag := fun e => (h3.tag c (List.mem_append.mpr (.inr List.mem_cons_self))) (List.mem_append.mpr (.inr (by rw [e]; exact List.mem_singleton.mpr rfl)))
      have n2 : a.under ≠ some c.tag := fun e => (h3.tag c (List.mem_append.mpr (.inr List.mem_cons_self))) (List.mem_append.mpr (.inl (h2 _ e)))
      show (if c.tag = a.tag then _ else if a.under = some c.tag then _ else stD (A ++ c :: S) c.tag) = _
      rw [if_neg n1, if_neg n2]
      exact stD_in h3
def foldS (L : List Cs) (f : Option PyData) : List Cs → Option PyData
  | [] => f
  | e :: R => foldS L ((stD L e.tag).or f) R
theorem foldS_or (L : List Cs) : ∀ (R : List Cs) (f : Option PyData), foldS L f R = (foldS L none R).or f
  | [], f => by simp [foldS]
  | e :: R, f => by
    show foldS L ((stD L e.tag).or f) R = (foldS L ((stD L e.tag).or none) R).or f
    rw [foldS_or L R ((stD L e.tag).or f), foldS_or L R ((stD L e.tag).or none)]
    cases foldS L none R <;> cases stD L e.tag <;> rfl
theorem fold_st {t : Ti} {L : List Cs} {P : List Ti} : ∀ {S : List Cs}, Lined P S → t ∈ P → (∀ e ∈ S, ∀ A B, S = A ++ e :: B → stD L e.tag = stD (e :: B) e.tag) → foldS L none (S.filter fun e => decide (e.under = some t)) = stD S t
  | [], _, _, _ => rfl
  | e :: S, h, ht, hL => by
    cases h with
    | @cons _ _ _ h1 h2 h3 =>
      have ih := fold_st (L := L) h3 (List.mem_append.mpr (.inl ht)) fun d hd A B q => hL d (List.mem_cons_of_mem _ hd) (e :: A) B (by rw [q]; rfl)
      have n1 : t ≠ e.tag := fun q => h1 (q ▸ ht)
      have le := hL e List.mem_cons_self [] S rfl
      have le2 : stD (e :: S) e.tag = (stD S e.tag).or (ownV e) := by
        show (if e.tag = e.tag then _ else _) = _
        rw [if_pos rfl]
      rw [le2] at le
      show _ = (if t = e.tag then _ else if e.under = some t then (stD S t).or ((stD S e.tag).or (ownV e)) else stD S t)
      rw [if_neg n1]
      by_cases q : e.under = some t
      · rw [if_pos q, List.filter_cons, decide_eq_true q, if_pos rfl]
        show foldS L ((stD L e.tag).or none) _ = _
        rw [foldS_or, ih, le]
        cases stD S t <;> cases (stD S e.tag).or (ownV e) <;> rfl
      · rw [if_neg q, List.filter_cons, decide_eq_false q]
        exact ih
theorem st_fold {L A S : List Cs} {c : Cs} (h : Lined [] L) (e : L = A ++ c :: S) : stD L c.tag = foldS L (ownV c) (L.filter fun d => decide (d.under = some c.tag)) := by
  have gen : ∀ {P : List Ti} {A : List Cs}, Lined P (A ++ c :: S) → (∀ d ∈ A ++ [c], d.under ≠ some c.tag) ∧ ∃ P', c.tag ∈ P' ∧ Lined P' S := fun {P A} h => by
    induction A generalizing P with
    | nil =>
      cases h with
      | @cons _ _ _ h1 h2 h3 =>
        refine ⟨fun d hd => ?_, _, List.mem_append.mpr (.inr (List.mem_singleton.mpr rfl)), h3⟩
        rw [List.mem_singleton.mp hd]
        exact fun q => h1 (h2 _ q)
    | cons a A ih =>
      cases h with
      | @cons _ _ _ h1 h2 h3 =>
        obtain ⟨k1, k2⟩ := ih h3
        refine ⟨fun d hd => ?_, k2⟩
        rcases List.mem_cons.mp hd with rfl | hd
        · exact fun q => (h3.tag c (List.mem_append.mpr (.inr List.mem_cons_self))) (List.mem_append.mpr (.inl (h2 _ q)))
        · exact k1 d hd
  subst e
  obtain ⟨k1, P', k2, k3⟩ := gen h
  have ef : (A ++ c :: S).filter (fun d => decide (d.under = some c.tag)) = S.filter fun d => decide (d.under = some c.tag) := by
    rw [show A ++ c :: S = (A ++ [c]) ++ S by rw [List.append_assoc]; rfl, List.filter_append, List.filter_eq_nil_iff.mpr fun d hd => by rw [decide_eq_false (k1 d hd)]; exact Bool.false_ne_true, List.nil_append]
  rw [ef, foldS_or, fold_st (P := P') k3 k2 fun d hd A' B q => ?_, stD_in h]
  · show (if c.tag = c.tag then _ else _) = _
    rw [if_pos rfl]
  · subst q
    have : Lined [] ((A ++ c :: A') ++ d :: B) := by rw [List.append_assoc]; exact h
    have := stD_in this
    rw [List.append_assoc] at this
    exact this
end Lw
namespace Lw
open PySem L2 PySem.W PySem.SeqAt Eg
theorem key_ti (t : Ti) : keyT (tiD t) = true := by simp [tiD, keyT, keyBs, keyB, PyData.depth, PyData.depthAll]
theorem nk_ti {a b : Ti} : nk (tiD a) = nk (tiD b) ↔ a = b := ⟨fun h => ti_inj (nk_inj _ _ (ti_key a) (ti_key b) h), fun h => by rw [h]⟩
def wdD : Option PyData → PyData
  | none => .none
  | some d => d
theorem gEq_un (u : Option Ti) (t : Ti) : gEq (unD u) (tiD t) = some (.bool (decide (u = some t))) := by
  cases u with
  | none => rfl
  | some s =>
    show gEq (tiD s) (tiD t) = _
    rw [gEq_ti]
    by_cases h : s = t
    · subst h; rw [decide_eq_true rfl, decide_eq_true rfl]
    · rw [decide_eq_false h, decide_eq_false fun e => h (Option.some.inj e)]
theorem gIn_V {d : PyData} (h : d ∈ ends37) : gIn d (.tuple [.str (Str.ofString "yes"), .str (Str.ofString "no")]) = some (.bool (isV d)) := by
  simp only [ends37, List.mem_cons, List.not_mem_nil, or_false] at h
  rcases h with rfl | rfl | rfl | rfl | rfl <;> rfl
theorem stD_V : ∀ {L : List Cs} {t : Ti} {d : PyData}, stD L t = some d → isV d = true
  | [], _, _, h => by cases h
  | c :: S, t, d, h => by
    have ov : ∀ {d : PyData}, ownV c = some d → isV d = true := fun {d} q => by
      unfold ownV at q
      split at q
      · rename_i z; cases q; exact z
      · cases q
    have orv : ∀ {x y : Option PyData} {d : PyData}, x.or y = some d → x = some d ∨ y = some d := fun {x y d} q => by
      cases x with
      | none => exact .inr q
      | some z => exact .inl q
    simp only [stD] at h
    split at h
    · rcases orv h with q | q
      · exact stD_V q
      · exact ov q
    · split at h
      · rcases orv h with q | q
        · exact stD_V q
        · rcases orv q with q | q
          · exact stD_V q
          · exact ov q
      · exact stD_V h
theorem isV_cases {d : PyData} (h : isV d = true) : d = ysD ∨ d = noD := by
  cases d <;> simp [isV] at h
  rcases h with rfl | rfl
  · exact .inl rfl
  · exact .inr rfl
theorem isN_wd {L : List Cs} {t : Ti} : gIsN (wdD (stD L t)) = some (.bool (stD L t).isNone) := by
  cases e : stD L t with
  | none => rfl
  | some d => rcases isV_cases (stD_V e) with rfl | rfl <;> rfl
section
variable {L : List Cs}
theorem stands_loop {self : Fn} {a1 a2 a6 : Option OD} : ∀ (R : List Cs) (f : Option PyData) (a4 a5 : Option OD), (∀ e ∈ R, self [some (.sh (casD L)), some (.sh (tiD e.tag))] = .ok (.sh (wdD (stD L e.tag))) [none, none]) →
    ∃ b4 b5, sLoop (tName 4) (m_stands_b3 self) (R.map fun c => tiD c.tag) [some (.sh (casD L)), a1, a2, some (.sh (wdD f)), a4, a5, a6] = .ok .nx [some (.sh (casD L)), a1, a2, some (.sh (wdD (foldS L f R))), b4, b5, a6]
  | [], f, a4, a5, _ => ⟨a4, a5, rfl⟩
  | e :: R, f, a4, a5, h => by
    obtain ⟨b4, b5, ih⟩ := stands_loop (a1 := a1) (a2 := a2) (a6 := a6) R ((stD L e.tag).or f) (some (.sh (tiD e.tag))) (some (.sh (wdD (stD L e.tag)))) fun d hd => h d (List.mem_cons_of_mem _ hd)
    refine ⟨b4, b5, ?_⟩
    have es := h e List.mem_cons_self
    have nn := isN_wd (L := L) (t := e.tag)
    have tn : ∀ {a0 a1 a2 a3 a4 a5 a6 : Option OD} {d : PyData}, tName 4 d [a0, a1, a2, a3, a4, a5, a6] = some [a0, a1, a2, a3, some (.sh d), a5, a6] := rfl
    have eb : m_stands_b3 self [some (.sh (casD L)), a1, a2, some (.sh (wdD f)), some (.sh (tiD e.tag)), a5, a6] = .ok .nx [some (.sh (casD L)), a1, a2, some (.sh (wdD ((stD L e.tag).or f))), some (.sh (tiD e.tag)), some (.sh (wdD (stD L e.tag))), a6] := by
      unfold m_stands_b3
      cases q : stD L e.tag with
      | none =>
        rw [q] at es nn
        have nn : gIsN (wdD none) = some (.bool true) := nn
        simp?! only [es, nn]
        rfl
      | some d =>
        rw [q] at es nn
        have nn : gIsN (wdD (some d)) = some (.bool false) := nn
        simp?! only [es, nn]
        rfl
    rw [List.map_cons]
    show sLoop _ _ (tiD e.tag :: _) _ = .ok .nx [some (.sh (casD L)), a1, a2, some (.sh (wdD (foldS L ((stD L e.tag).or f) R))), b4, b5, a6]
    rw [← ih]
    simp?! only [v_lp1, tn, eb, v_lpO, v_lpn]
theorem filt_in {A S : List Cs} {c : Cs} (h : Lined [] (A ++ c :: S)) : (A ++ c :: S).filter (fun d => decide (d.under = some c.tag)) = S.filter fun d => decide (d.under = some c.tag) := by
  have gen : ∀ {P : List Ti} {A : List Cs}, Lined P (A ++ c :: S) → (∀ d ∈ A ++ [c], d.under ≠ some c.tag) := fun {P A} h => by
    induction A generalizing P with
    | nil =>
      cases h with
      | @cons _ _ _ h1 h2 h3 =>
        intro d hd
        rw [List.mem_singleton.mp hd]
        exact fun q => h1 (h2 _ q)
    | cons a A ih =>
      cases h with
      | @cons _ _ _ h1 h2 h3 =>
        intro d hd
        rcases List.mem_cons.mp hd with rfl | hd
        · exact fun q => (h3.tag c (List.mem_append.mpr (.inr List.mem_cons_self))) (List.mem_append.mpr (.inl (h2 _ q)))
        · exact ih h3 d hd
  have k1 := gen h
  rw [show A ++ c :: S = (A ++ [c]) ++ S by rw [List.append_assoc]; rfl, List.filter_append, List.filter_eq_nil_iff.mpr fun d hd => by rw [decide_eq_false (k1 d hd)]; exact Bool.false_ne_true, List.nil_append]
theorem Lined.find {P : List Ti} {c : Cs} : ∀ {A S : List Cs}, Lined P (A ++ c :: S) → findS (A ++ c :: S) c.tag = some c
  | [], S, _ => by unfold findS; rw [List.nil_append, List.find?_cons, decide_eq_true rfl]
  | a :: A, S, h => by
    cases h with
    | @cons _ _ _ h1 h2 h3 =>
      have n1 : a.tag ≠ c.tag := fun e => (h3.tag c (List.mem_append.mpr (.inr List.mem_cons_self))) (List.mem_append.mpr (.inr (by rw [e]; exact List.mem_singleton.mpr rfl)))
      have := Lined.find h3
      unfold findS at this ⊢
      rw [List.cons_append, List.find?_cons, decide_eq_false n1]
      exact this
theorem stands37 (hL : Lined [] L) (hF : ∀ c ∈ L, CsF c) (hl : L.length ≤ 1000) : ∀ (n : Nat) (A S : List Cs) (c : Cs), L = A ++ c :: S → S.length < n → fn_stands n [some (.sh (casD L)), some (.sh (tiD c.tag))] = .ok (.sh (wdD (stD L c.tag))) [none, none]
  | 0, _, _, _, _, h => by cases h
  | n + 1, A, S, c, eL, hn => by
    have z := sizeLine_eq
    have hf : findS L c.tag = some c := by rw [eL]; exact (eL ▸ hL).find
    have ef := find37 hl hf
    have cm : c ∈ L := findS_mem hf
    have g6 := gIx_cs6 c
    have gv := gIn_V (hF c cm).en
    have ec : ∀ {a2 a3 : Option OD}, mComp ((mName 0).bind seqItems) (tName 6) (m_stands_t2 (fn_stands n)) (m_stands_e1 (fn_stands n)) [6] [some (.sh (casD L)), some (.sh (tiD c.tag)), a2, a3, none, none, none] =
        .ok (.ol ((L.filter fun d => decide (d.under = some c.tag)).map fun d => tiD d.tag)) [some (.sh (casD L)), some (.sh (tiD c.tag)), a2, a3, none, none, none] := fun {a2 a3} => by
      refine comp_filt (f := csD) (fun d => decide (d.under = some c.tag)) (fun d => tiD d.tag) (by unfold casD; simp?! only []) (by omega) fun d _ => ⟨[some (.sh (casD L)), some (.sh (tiD c.tag)), a2, a3, none, none, some (.sh (csD d))], [some (.sh (casD L)), some (.sh (tiD c.tag)), a2, a3, none, none, some (.sh (csD d))], rfl, ?_, rfl, fun h => ⟨[some (.sh (casD L)), some (.sh (tiD c.tag)), a2, a3, none, none, some (.sh (csD d))], ?_, rfl⟩⟩
      · have g1 := gIx_cs1 d
        have ge := gEq_un d.under c.tag
        unfold m_stands_t2
        simp?! only [g1, ge]
      · have g0 := gIx_cs0 d
        unfold m_stands_e1
        simp?! only [g0]
    have fi := filt_in (eL ▸ hL)
    rw [← eL] at fi
    obtain ⟨b4, b5, el⟩ := stands_loop (L := L) (self := fn_stands n) (a1 := some (.sh (tiD c.tag))) (a2 := some (.sh c.en)) (a6 := none) (L.filter fun d => decide (d.under = some c.tag)) (ownV c) none none fun e he => by
      rw [fi] at he
      obtain ⟨A2, B2, e2⟩ := List.append_of_mem (List.mem_filter.mp he).1
      exact stands37 hL hF hl n (A ++ c :: A2) B2 e (by rw [eL, e2, List.append_assoc]; rfl) (by
        have : S.length = A2.length + (B2.length + 1) := by rw [e2, List.length_append, List.length_cons]
        omega)
    rw [← st_fold hL eL] at el
    have t2 : ∀ a b : PyData, tupG [a, b] = some (.tuple [a, b]) := fun _ _ => if_pos (show 2 ≤ sizeLine by decide)
    show fnM 5 [false, false] (m_stands (fn_stands n)) [some (.sh (casD L)), some (.sh (tiD c.tag))] = _
    cases q : isV c.en with
    | true =>
      have eo : ownV c = some c.en := if_pos q
      rw [eo] at el
      have el : sLoop (tName 4) (m_stands_b3 (fn_stands n)) ((L.filter fun d => decide (d.under = some c.tag)).map fun c => tiD c.tag) [some (.sh (casD L)), some (.sh (tiD c.tag)), some (.sh c.en), some (.sh c.en), none, none, none] = _ := el
      rw [q] at gv
      unfold m_stands
      simp?! only [ef, g6, t2, gv, ec, el]
    | false =>
      have eo : ownV c = none := if_neg (by rw [q]; exact Bool.false_ne_true)
      rw [eo] at el
      have el : sLoop (tName 4) (m_stands_b3 (fn_stands n)) ((L.filter fun d => decide (d.under = some c.tag)).map fun c => tiD c.tag) [some (.sh (casD L)), some (.sh (tiD c.tag)), some (.sh c.en), some (.sh .none), none, none, none] = _ := el
      rw [q] at gv
      unfold m_stands
      simp?! only [ef, g6, t2, gv, ec, el]
end
end Lw
namespace Lw
open PySem L2 PySem.W PySem.SeqAt Eg
def KdR (kvs : List (PyData × PyData)) (S : List Cs) : Prop := ∀ t : Ti, kAt kvs (tiD t) = stD S t
theorem kHas_R {kvs : List (PyData × PyData)} {t : Ti} {x : Option PyData} (h : kAt kvs (tiD t) = x) : kHas kvs (tiD t) = x.isSome := by rw [← kAt_has, h]
section
variable {L : List Cs} {a0 a4 : Option OD} {kvs : List (PyData × PyData)} {S : List Cs} {c : Cs}
def asA : M Out := sIf (mAnd (mKNot 1 (mName 2)) ((m2 gIn (mSlot 5) ((M.ret (.tuple [(.str "yes"), (.str "no")])).bind fun d => M.ret (.dat d))).bind asBool)) (sKPut 1 (mName 5) (mName 2)) (sNext)
def asB : M Out := sIf (mAnd (mKIn 1 (mName 2)) (mAnd ((m1 gNotN (mSlot 3)).bind asBool) (mKNot 1 (mName 3)))) (sKPut 1 (mHas 1 (mKGet 1 (mName 2))) (mName 3)) (sNext)
theorem as_eq : m_all_standing_b1 = sSeq asA asB := rfl
theorem as_a (hk : KdR kvs S) (hc : c.en ∈ ends37) (l : kvs.length ≤ 1000) : ∃ kvs' : List (PyData × PyData), (∀ t : Ti, kAt kvs' (tiD t) = if t = c.tag then (stD S c.tag).or (ownV c) else stD S t) ∧ kvs'.length ≤ kvs.length + 1 ∧
    asA [a0, some (.kd kvs), some (.sh (tiD c.tag)), some (.sh (unD c.under)), a4, some (.sh c.en)] = .ok .nx [a0, some (.kd kvs'), some (.sh (tiD c.tag)), some (.sh (unD c.under)), a4, some (.sh c.en)] := by
  have z := sizeLine_eq
  have ok : ∀ {γ : Type} (f : List (PyData × PyData) → PyData → Option γ) (ρ : Rho), onKo (some kvs) f (tiD c.tag) ρ = Res.opt (f kvs (tiD c.tag)) ρ := fun f ρ => v_onKo (key_ti _)
  have hh := kHas_R (hk c.tag)
  have gv := gIn_V hc
  have sz : kvs.length < sizeLine := by omega
  have kp : ∀ (d : PyData) (ρ : Rho), kputO (some (some (.kd kvs))) 1 d (tiD c.tag) ρ = .ok .nx (ρ.set 1 (some (.kd (kPut kvs (tiD c.tag) d)))) := fun d ρ => v_kputO (key_ti _) sz
  cases q : stD S c.tag with
  | some d =>
    rw [q] at hh
    have hh : kHas kvs (tiD c.tag) = true := hh
    refine ⟨kvs, fun t => ?_, by omega, ?_⟩
    · by_cases e : t = c.tag
      · subst e; rw [if_pos rfl, hk, q]; rfl
      · rw [if_neg e]; exact hk t
    · unfold asA
      simp?! only [v_knot, v_dck, ok, hh]
  | none =>
    rw [q] at hh
    have hh : kHas kvs (tiD c.tag) = false := hh
    cases w : isV c.en with
    | true =>
      rw [w] at gv
      have eo : ownV c = some c.en := if_pos w
      refine ⟨kPut kvs (tiD c.tag) c.en, fun t => ?_, kPut_len _ _ _, ?_⟩
      · rw [kAt_put, eo]
        by_cases e : t = c.tag
        · subst e; rw [if_pos rfl, if_pos rfl]; rfl
        · rw [if_neg e, if_neg fun h => e (nk_ti.mp h).symm]; exact hk t
      · unfold asA
        simp?! only [v_knot, v_dck, ok, hh, gv, v_kput, kp]
    | false =>
      rw [w] at gv
      have eo : ownV c = none := if_neg (by rw [w]; exact Bool.false_ne_true)
      refine ⟨kvs, fun t => ?_, by omega, ?_⟩
      · rw [eo]
        by_cases e : t = c.tag
        · subst e; rw [if_pos rfl, hk, q]; rfl
        · rw [if_neg e]; exact hk t
      · unfold asA
        simp?! only [v_knot, v_dck, ok, hh, gv]
theorem as_b (hk : ∀ t : Ti, kAt kvs (tiD t) = if t = c.tag then (stD S c.tag).or (ownV c) else stD S t) (hs : c.under ≠ some c.tag) (l : kvs.length ≤ 1001) : ∃ kvs', KdR kvs' (c :: S) ∧ kvs'.length ≤ kvs.length + 1 ∧
    asB [a0, some (.kd kvs), some (.sh (tiD c.tag)), some (.sh (unD c.under)), a4, some (.sh c.en)] = .ok .nx [a0, some (.kd kvs'), some (.sh (tiD c.tag)), some (.sh (unD c.under)), a4, some (.sh c.en)] := by
  have z := sizeLine_eq
  have ok : ∀ {γ : Type} (t : Ti) (f : List (PyData × PyData) → PyData → Option γ) (ρ : Rho), onKo (some kvs) f (tiD t) ρ = Res.opt (f kvs (tiD t)) ρ := fun t f ρ => v_onKo (key_ti _)
  have sz : kvs.length < sizeLine := by omega
  have kc := hk c.tag
  rw [if_pos rfl] at kc
  have hh := kHas_R kc
  cases q : (stD S c.tag).or (ownV c) with
  | none =>
    rw [q] at hh
    have hh : kHas kvs (tiD c.tag) = false := hh
    refine ⟨kvs, fun t => ?_, by omega, ?_⟩
    · rw [hk]
      show _ = (if t = c.tag then (stD S c.tag).or (ownV c) else if c.under = some t then (stD S t).or ((stD S c.tag).or (ownV c)) else stD S t)
      rw [q]
      by_cases e : t = c.tag
      · rw [if_pos e, if_pos e]
      · rw [if_neg e, if_neg e]
        by_cases e2 : c.under = some t
        · rw [if_pos e2]; cases stD S t <;> rfl
        · rw [if_neg e2]
    · unfold asB
      simp?! only [v_kin, v_dck, ok, hh]
  | some d =>
    rw [q] at hh kc
    have hh : kHas kvs (tiD c.tag) = true := hh
    cases u : c.under with
    | none =>
      have gn : gNotN (unD none) = some (.bool false) := rfl
      refine ⟨kvs, fun t => ?_, by omega, ?_⟩
      · rw [hk]
        show _ = (if t = c.tag then (stD S c.tag).or (ownV c) else if c.under = some t then (stD S t).or ((stD S c.tag).or (ownV c)) else stD S t)
        rw [u, if_neg (show ¬ (none : Option Ti) = some t from fun h => by cases h)]
      · unfold asB
        simp?! only [v_kin, v_dck, ok, hh, gn]
    | some s =>
      have ns : s ≠ c.tag := fun e => hs (by rw [u, e])
      have gn : gNotN (unD (some s)) = some (.bool true) := rfl
      have ku := hk s
      rw [if_neg ns] at ku
      have hu := kHas_R ku
      have eu : unD (some s) = tiD s := rfl
      cases q2 : stD S s with
      | some d2 =>
        rw [q2] at hu
        have hu : kHas kvs (tiD s) = true := hu
        refine ⟨kvs, fun t => ?_, by omega, ?_⟩
        · rw [hk]
          show _ = (if t = c.tag then (stD S c.tag).or (ownV c) else if c.under = some t then (stD S t).or ((stD S c.tag).or (ownV c)) else stD S t)
          by_cases e : t = c.tag
          · rw [if_pos e, if_pos e]
          · rw [if_neg e, if_neg e, u]
            by_cases e2 : some s = some t
            · cases e2; rw [if_pos rfl, q2]; rfl
            · rw [if_neg e2]
        · rw [eu] at gn ⊢
          unfold asB
          simp?! only [v_kin, v_knot, v_dck, ok, hh, gn, hu]
      | none =>
        rw [q2] at hu
        have hu : kHas kvs (tiD s) = false := hu
        have kp : ∀ (d : PyData) (ρ : Rho), kputO (some (some (.kd kvs))) 1 d (tiD s) ρ = .ok .nx (ρ.set 1 (some (.kd (kPut kvs (tiD s) d)))) := fun d ρ => v_kputO (key_ti _) sz
        refine ⟨kPut kvs (tiD s) d, fun t => ?_, kPut_len _ _ _, ?_⟩
        · rw [kAt_put]
          show _ = (if t = c.tag then (stD S c.tag).or (ownV c) else if c.under = some t then (stD S t).or ((stD S c.tag).or (ownV c)) else stD S t)
          by_cases e2 : s = t
          · subst e2
            rw [if_pos rfl, if_neg ns, u, if_pos rfl, q2, q]; rfl
          · rw [if_neg fun h => e2 (nk_ti.mp h), hk, u, if_neg (show ¬ some s = some t from fun h => e2 (Option.some.inj h))]
        · rw [eu] at gn ⊢
          unfold asB
          simp?! only [v_kin, v_knot, v_kget, v_dck, ok, hh, gn, hu, v_kput, kp, kc]
theorem Lined.self {P : List Ti} {S : List Cs} (h : Lined P S) : ∀ c ∈ S, c.under ≠ some c.tag := by
  induction h with
  | nil => intro c hc; cases hc
  | cons h1 h2 _ ih =>
    intro d hd
    rcases List.mem_cons.mp hd with rfl | hd
    · exact fun e => h1 (h2 _ e)
    · exact ih d hd
theorem all37 (hL : Lined [] L) (hF : ∀ c ∈ L, CsF c) (hl : L.length ≤ 100) : ∃ kvs, KdR kvs L ∧ fn_all_standing [some (.sh (casD L))] = .ok (.kd kvs) [none] := by
  have gL : ∀ S : List Cs, ∃ S' : List Cs, S' = S := fun S => ⟨S, rfl⟩
  obtain ⟨ρ', e, S, kvs, b2, b3, b4, b5, rfl, eS, hk, _⟩ := loop_inv (f := csD) (t := tTup [tName 2, tName 3, tName 4, tName 4, tName 4, tName 4, tName 5]) (b := m_all_standing_b1)
    (fun rest ρ => ∃ (S : List Cs) (kvs : List (PyData × PyData)) (b2 b3 b4 b5 : Option OD), ρ = [some (.sh (casD L)), some (.kd kvs), b2, b3, b4, b5] ∧ L = rest.reverse ++ S ∧ KdR kvs S ∧ kvs.length ≤ 2 * S.length) (by
      rintro c rest ρ ⟨S, kvs, b2, b3, b4, b5, rfl, eS, hk, l⟩
      rw [List.reverse_cons, List.append_assoc] at eS
      have eS : L = rest.reverse ++ c :: S := eS
      have cm : c ∈ L := by rw [eS]; exact List.mem_append.mpr (.inr List.mem_cons_self)
      have sl : S.length + 1 ≤ L.length := by rw [eS, List.length_append, List.length_cons]; omega
      obtain ⟨k1, h1, l1, e1⟩ := as_a (a0 := some (.sh (casD L))) (a4 := some (.sh c.v)) (c := c) hk (hF c cm).en (by omega)
      obtain ⟨k2, h2, l2, e2⟩ := as_b (a0 := some (.sh (casD L))) (a4 := some (.sh c.v)) (c := c) h1 (hL.self c cm) (by omega)
      refine ⟨[some (.sh (casD L)), some (.kd kvs), some (.sh (tiD c.tag)), some (.sh (unD c.under)), some (.sh c.v), some (.sh c.en)], _, rfl, .inl ?_, c :: S, k2, some (.sh (tiD c.tag)), some (.sh (unD c.under)), some (.sh c.v), some (.sh c.en), rfl, eS, h2, by rw [List.length_cons]; omega⟩
      rw [as_eq]
      simp?! only [e1, e2]) L.reverse [some (.sh (casD L)), some (.kd []), none, none, none, none] ⟨[], [], none, none, none, none, rfl, by rw [List.reverse_reverse, List.append_nil], fun t => rfl, by simp⟩
  have eS : L = S := eS
  subst eS
  refine ⟨kvs, hk, ?_⟩
  have er : revItems (casD L) = M.ret (L.reverse.map csD) := by rw [List.map_reverse]; rfl
  unfold fn_all_standing m_all_standing
  simp?! only [er, e]
  rfl
end
end Lw
namespace Lw
open PySem L2 PySem.W PySem.SeqAt Eg
def apps (L : List Cs) (t : Ti) : List PyData := (L.filter fun d => decide (d.under = some t)).map fun d => tiD d.tag
section
variable {L : List Cs} {t : Ti} {c : Cs} {w : List Cs}
def noteD (L : List Cs) (t : Ti) (w : List Cs) : PyData := .tuple [tiD t, .tuple (heads (voicesS w)), wdD (stD L t)]
end
end Lw
namespace Lw
open PySem L2 PySem.W PySem.SeqAt Eg
def el11 (k : Int) : Ti := (Str.ofString "elm", 0, k)
end Lw
namespace Lw
open PySem L2 PySem.W PySem.SeqAt Eg
structure TtF (t : Ti) : Prop where
  th : Th 40 60 1 (tiD t)
  nA : t ≠ (Str.ofString "ash", 0, 0)
  nE : t ≠ (Str.ofString "elm", 9, 9)
structure Good37 (L : List Cs) : Prop where
  lin : Lined [] L
  len : L.length ≤ 13
  f : ∀ c ∈ L, CsF c
  t : ∀ c ∈ L, TtF c.tag
  w : ∀ c ∈ L, ∃ w, WayS L (some c.tag) w ∧ w.length ≤ 13 ∧ (voicesS w).length ≤ 60
theorem Lined.of : ∀ {P : List Ti} {S : List Cs}, (∀ A c B, S = A ++ c :: B → c.tag ∉ P ++ A.map (·.tag) ∧ ∀ u, c.under = some u → u ∈ P ++ A.map (·.tag)) → Lined P S
  | P, [], _ => .nil
  | P, c :: S, h => by
    obtain ⟨h1, h2⟩ := h [] c S rfl
    rw [List.map_nil, List.append_nil] at h1 h2
    refine .cons h1 h2 (Lined.of fun A d B e => ?_)
    have := h (c :: A) d B (by rw [e]; rfl)
    rw [List.map_cons] at this
    rw [List.append_assoc]
    exact this
theorem Lined.under {P : List Ti} {S : List Cs} (h : Lined P S) : ∀ A c B, S = A ++ c :: B → c.tag ∉ P ++ A.map (·.tag) ∧ ∀ u, c.under = some u → u ∈ P ++ A.map (·.tag) := by
  induction h with
  | nil => intro A c B e; cases A <;> cases e
  | @cons P c S h1 h2 h3 ih =>
    intro A d B e
    cases A with
    | nil => cases e; rw [List.map_nil, List.append_nil]; exact ⟨h1, h2⟩
    | cons a A =>
      rw [List.cons_append] at e
      cases e
      have := ih A d B rfl
      rw [List.append_assoc] at this
      exact this
theorem Lined.add {L : List Cs} {c : Cs} (h : Lined [] L) (h1 : c.tag ∉ L.map (·.tag)) (h2 : ∀ u, c.under = some u → u ∈ L.map (·.tag)) : Lined [] (L ++ [c]) := by
  refine Lined.of fun A d B e => ?_
  rcases List.eq_nil_or_concat B with rfl | ⟨B', b, rfl⟩
  · have := List.append_inj' e rfl
    obtain ⟨e1, e2⟩ := this
    cases e2
    subst e1
    exact ⟨h1, h2⟩
  · have e3 : L ++ [c] = (A ++ d :: B') ++ [b] := by rw [e, List.append_assoc, List.concat_eq_append]; rfl
    obtain ⟨e1, _⟩ := List.append_inj' e3 rfl
    exact h.under A d B' e1
end Lw
namespace Lw
open PySem L2 PySem.W PySem.SeqAt Eg
theorem way_of {L : List Cs} (hL : Lined [] L) : ∀ (n : Nat) (A B : List Cs) (c : Cs), A.length < n → L = A ++ c :: B → ∃ w, WayS L (some c.tag) w ∧ w.length ≤ A.length + 1
  | 0, _, _, _, h, _ => by cases h
  | n + 1, A, B, c, hn, e => by
    have hf : findS L c.tag = some c := by rw [e]; exact (e ▸ hL).find
    cases u : c.under with
    | none => exact ⟨[c], .cons hf (by rw [u]; exact .nil), by rw [List.length_singleton]; omega⟩
    | some s =>
      have := (hL.under A c B e).2 s u
      rw [List.nil_append] at this
      obtain ⟨c1, hc, rfl⟩ := List.mem_map.mp this
      obtain ⟨A1, B1, e1⟩ := List.append_of_mem hc
      have l1 : A1.length + 1 ≤ A.length := by rw [e1, List.length_append, List.length_cons]; omega
      obtain ⟨w, w1, w2⟩ := way_of hL n A1 (B1 ++ c :: B) c1 (by omega) (by rw [e, e1, List.append_assoc]; rfl)
      exact ⟨c :: w, .cons hf (by rw [u]; exact w1), by rw [List.length_cons]; omega⟩
theorem voices_le {k : Nat} : ∀ (w : List Cs), (∀ c ∈ w, c.vs.length ≤ k) → (voicesS w).length ≤ k * w.length
  | [], _ => Nat.zero_le _
  | c :: w, h => by
    have e : voicesS (c :: w) = c.vs ++ voicesS w := rfl
    have h1 := voices_le w fun d hd => h d (List.mem_cons_of_mem _ hd)
    have h2 := h c List.mem_cons_self
    rw [e, List.length_append, List.length_cons, Nat.mul_succ]
    omega
theorem ways_ok {L : List Cs} {k : Nat} (hL : Lined [] L) (hk : ∀ c ∈ L, c.vs.length ≤ k) (hl : L.length ≤ 13) (hb : k * L.length ≤ 60) : ∀ c ∈ L, ∃ w, WayS L (some c.tag) w ∧ w.length ≤ 13 ∧ (voicesS w).length ≤ 60 := fun c hc => by
  obtain ⟨A, B, e⟩ := List.append_of_mem hc
  obtain ⟨w, w1, w2⟩ := way_of hL (A.length + 1) A B c (Nat.lt_succ_self _) e
  have la : A.length + 1 ≤ L.length := by rw [e, List.length_append, List.length_cons]; omega
  have v := voices_le (k := k) w fun d hd => hk d (w1.mem d hd).1
  have : k * w.length ≤ k * L.length := Nat.mul_le_mul_left k (by omega)
  exact ⟨w, w1, by omega, by omega⟩
def linB : List Ti → List Cs → Bool
  | _, [] => true
  | P, c :: S => !decide (c.tag ∈ P) && (match c.under with | none => true | some u => decide (u ∈ P)) && linB (P ++ [c.tag]) S
theorem Lined.ofB : ∀ {P : List Ti} {S : List Cs}, linB P S = true → Lined P S
  | P, [], _ => .nil
  | P, c :: S, h => by
    simp only [linB, Bool.and_eq_true, Bool.not_eq_true', decide_eq_false_iff_not] at h
    obtain ⟨⟨h1, h2⟩, h3⟩ := h
    refine .cons h1 (fun u e => ?_) (Lined.ofB h3)
    rw [e] at h2
    exact of_decide_eq_true h2
end Lw
namespace Lw
open PySem L2 PySem.W PySem.SeqAt Eg
theorem some37 {xs : List PyData} {n : Nat} {F : List Hand} {D : PyData} {v : Int} (hf : FeedAt xs n) (hn : n < 700000) (gl : gList [D] = some (.ol (F.map hd))) (hF : F.length ≤ 100) (v0 : 0 ≤ v) (v1 : v ≤ 100) :
    ∃ (G : List Hand) (xs' : List PyData), (∀ h ∈ G, h ∈ F) ∧ (G.length : Int) ≤ v ∧ G.length ≤ F.length ∧ FeedAt xs' (n + F.length) ∧ fn_some [some (.ol xs), some (.sh D), some (.sh (.int v))] = .ok (.sh (.tuple (G.map hd))) [some (.ol xs'), none, none] := by
  have z := sizeLine_eq
  have glen : gLen [.list (F.map hd)] = some (.sh (.int (F.length : Int))) := by rw [gLen_any, List.length_map]
  have gm := gMin_int v (F.length : Int)
  obtain ⟨m, em⟩ : ∃ m : Nat, (if (F.length : Int) < v then (F.length : Int) else v) = (m : Int) := ⟨(if (F.length : Int) < v then (F.length : Int) else v).toNat, by split <;> omega⟩
  rw [em] at gm
  have mb : (m : Int) ≤ v ∧ m ≤ F.length := by
    split at em <;> omega
  have rg : rng1 [.int (m : Int)] = some ((List.range m).map fun i : Nat => PyData.int (i : Int)) := by
    have := rng1_natX (j := (m : Int)) (by omega) (by omega)
    rw [Int.toNat_natCast] at this
    exact this
  obtain ⟨ρ', e2, xs2, L, G, c5, rfl, hL, hG, ll, gl', f2⟩ := loop_inv (f := fun i : Nat => PyData.int (i : Int)) (t := tName 5) (b := m_some_b1)
    (fun rest ρ => ∃ (xs : List PyData) (L G : List Hand) (c5 : Option OD), ρ = [some (.ol xs), some (.sh D), some (.sh (.int v)), some (.ol (L.map hd)), some (.ol (G.map hd)), c5] ∧ (∀ h ∈ L, h ∈ F) ∧ (∀ h ∈ G, h ∈ F) ∧ L.length + G.length = F.length ∧ G.length + rest.length = m ∧ FeedAt xs (n + G.length)) (by
      rintro i rest ρ ⟨xs, L, G, c5, rfl, hL, hG, ll, gl, f⟩
      rw [List.length_cons] at gl
      obtain ⟨y, L', xs2, hy, pm, f3, e⟩ := some_step (L := L) (F := G.map hd) (a1 := some (.sh D)) (a2 := some (.sh (.int v))) (a5 := some (.sh (.int (i : Int)))) f (by omega) (by omega) (by omega) (by rw [List.length_map]; omega)
      have l' := pm.length_eq
      rw [List.length_cons] at l'
      refine ⟨_, _, rfl, .inl e, xs2, L', G ++ [y], _, by rw [List.map_append]; rfl, fun h hh => hL h (pm.mem_iff.mpr (List.mem_cons_of_mem _ hh)), fun h hh => ?_, by rw [List.length_append, List.length_singleton]; omega, by rw [List.length_append, List.length_singleton]; omega, by rw [List.length_append, List.length_singleton]; exact f3.mono (by omega)⟩
      rcases List.mem_append.mp hh with z | z
      · exact hG h z
      · rw [List.mem_singleton.mp z]; exact hL y hy) (List.range m) [some (.ol xs), some (.sh D), some (.sh (.int v)), some (.ol (F.map hd)), some (.ol []), none]
    ⟨xs, F, [], none, rfl, fun h hh => hh, (fun h hh => nomatch hh), by simp, by simp, hf⟩
  have gl' : G.length = m := by simpa using gl'
  have gs := gSorted_hds (l := G) (by omega)
  have sl := (sortH_perm G).length_eq
  have l0 : lstG [] = some (.ol []) := lstG_ok (by decide)
  refine ⟨sortH G, xs2, fun h hh => hG h ((sortH_perm G).mem_iff.mp hh), by omega, by omega, f2.mono (by omega), ?_⟩
  unfold fn_some m_some
  simp?! only [l0, gl, glen, gm, rg, e2, gs, gTup_l]
theorem folkd37 : fn_folk_2 [] = .ok (.ol (folk37.map hd)) [] := by
  have t2 : ∀ a b : PyData, tupG [a, b] = some (.tuple [a, b]) := fun _ _ => if_pos (show 2 ≤ sizeLine by decide)
  have l6 : ∀ a b c d e f : PyData, lstG [a, b, c, d, e, f] = some (.ol [a, b, c, d, e, f]) := fun _ _ _ _ _ _ => if_pos (show 6 ≤ sizeLine by decide)
  unfold fn_folk_2 m_folk_2
  simp?! only [t2, l6]
  rfl
structure Tf (t : Ti) : Prop where
  o : t.1 = Str.ofString "elm" ∨ t.1 = Str.ofString "oak"
  a0 : 0 ≤ t.2.1
  a1 : t.2.1 < 90
  b0 : 0 ≤ t.2.2
  b1 : t.2.2 < 6
theorem Tf.tt {t : Ti} (h : Tf t) : TtF t := by
  refine ⟨?_, fun e => ?_, fun e => ?_⟩
  · have h1 : Th 40 20 0 (.str t.1) := by
      rcases h.o with e | e <;> rw [e] <;> exact Th.ofB (by decide +kernel) (by decide)
    have h2 : Th 40 4 0 (.int t.2.1) := Th.int (m := 40) (n := 3) (by have := h.a0; have := h.a1; omega) (by decide) (by decide)
    have h3 : Th 40 4 0 (.int t.2.2) := Th.int (m := 40) (n := 3) (by have := h.b0; have := h.b1; omega) (by decide) (by decide)
    exact (Ths.cons h1 (Ths.cons h2 (Ths.cons h3 (Ths.nil (n := 0) (by decide))))).tup.mono (by omega) (by omega)
  · have := h.o
    rw [e] at this
    rcases this with q | q <;> exact absurd q (by decide +kernel)
  · have := h.b1
    rw [e] at this
    exact absurd this (by decide)
def Bel (t : Ti) (r m : Int) : Prop := t.2.1 < r ∨ (t.2.1 = r ∧ t.2.2 < m)
theorem title_b1 {xs : List PyData} {n : Nat} {T : List Ti} {o : Str} {r m : Int} {k : Option OD} (hf : FeedAt xs n) (hn : n < 700000) (hT : T.length ≤ 100) (ho : o = Str.ofString "elm" ∨ o = Str.ofString "oak") (r0 : 0 ≤ r) (r1 : r < 80) (m0 : 0 ≤ m) (m1 : m < 6)
    (hb : ∀ t ∈ T, t.1 = o → Bel t r m) (nd : T.Nodup) (tf : ∀ t ∈ T, Tf t) :
    ∃ (r' m' : Int) (t' : Ti) (xs' : List PyData), r ≤ r' ∧ r' ≤ r + 2 ∧ 0 < m' ∧ m' ≤ m + 1 ∧ (∀ t ∈ T ++ [t'], t.1 = o → Bel t r' m') ∧ (T ++ [t']).Nodup ∧ (∀ t ∈ T ++ [t'], Tf t) ∧ t'.1 = o ∧ FeedAt xs' (n + 2) ∧
      m_titles_2_b1 [some (.ol xs), some (.ol (T.map tiD)), some (.sh (.str o)), some (.sh (.int r)), some (.sh (.int m)), k] = .ok .nx [some (.ol xs'), some (.ol ((T ++ [t']).map tiD)), some (.sh (.str o)), some (.sh (.int r')), some (.sh (.int m')), k] := by
  have z := sizeLine_eq
  obtain ⟨v, xs1, v0, v1, f1, e1⟩ := drawX (many := 4) hf (by omega) (by decide) (by decide)
  have t3 : ∀ a b c : PyData, tupG [a, b, c] = some (.tuple [a, b, c]) := fun _ _ _ => if_pos (show 3 ≤ sizeLine by decide)
  have sz : (T.map tiD).length < sizeLine := by rw [List.length_map]; omega
  have fin : ∀ {r' m' : Int} {xs' : List PyData}, (r' = r ∧ m' = m) ∨ (r < r' ∧ m' = 0) → r' ≤ r + 2 →
      (∀ t ∈ T ++ [(o, r', m')], t.1 = o → Bel t r' (m' + 1)) ∧ (T ++ [((o, r', m') : Ti)]).Nodup ∧ (∀ t ∈ T ++ [((o, r', m') : Ti)], Tf t) := fun {r' m' xs'} h hr => by
    have hb' : ∀ t ∈ T, t.1 = o → Bel t r' m' := fun t ht e => by
      rcases hb t ht e with q | ⟨q, q2⟩
      · rcases h with ⟨h1, h2⟩ | ⟨h1, h2⟩
        · rw [h1]; exact .inl q
        · exact .inl (by omega)
      · rcases h with ⟨h1, h2⟩ | ⟨h1, h2⟩
        · rw [h1, h2]; exact .inr ⟨q, q2⟩
        · exact .inl (by omega)
    refine ⟨fun t ht e => ?_, ?_, fun t ht => ?_⟩
    · rcases List.mem_append.mp ht with q | q
      · rcases hb' t q e with q | ⟨q, q2⟩
        · exact .inl q
        · exact .inr ⟨q, by omega⟩
      · rw [List.mem_singleton.mp q]
        exact .inr ⟨rfl, by show m' < m' + 1; omega⟩
    · refine List.nodup_append.mpr ⟨nd, by simp, fun a ha b hb2 e => ?_⟩
      rw [List.mem_singleton.mp hb2] at e
      subst e
      rcases hb' _ ha rfl with q | ⟨_, q⟩
      · exact absurd q (Int.lt_irrefl _)
      · exact absurd q (Int.lt_irrefl _)
    · rcases List.mem_append.mp ht with q | q
      · exact tf t q
      · rw [List.mem_singleton.mp q]
        refine ⟨ho, ?_, ?_, ?_, ?_⟩
        · show 0 ≤ r'; omega
        · show r' < 90; omega
        · show 0 ≤ m'; omega
        · show m' < 6; omega
  by_cases q : v = 0
  · obtain ⟨d, xs2, d0, d1, f2, e2⟩ := drawX (many := 2) f1 (by omega) (by decide) (by decide)
    obtain ⟨h1, h2, h3⟩ := fin (r' := r + 1 + d) (m' := 0) (xs' := xs2) (.inr ⟨by omega, rfl⟩) (by omega)
    refine ⟨r + 1 + d, 0 + 1, (o, r + 1 + d, 0), xs2, by omega, by omega, by omega, by omega, h1, h2, h3, rfl, f2.mono (by omega), ?_⟩
    subst q
    rw [List.map_append]
    show _ = Res.ok Out.nx [some (.ol xs2), some (.ol (T.map tiD ++ [PyData.tuple [.str o, .int (r + 1 + d), .int 0]])), some (.sh (.str o)), some (.sh (.int (r + 1 + d))), some (.sh (.int (0 + 1))), k]
    unfold m_titles_2_b1
    simp?! only [e1, e2, t3, sz]
  · obtain ⟨h1, h2, h3⟩ := fin (r' := r) (m' := m) (xs' := xs1) (.inl ⟨rfl, rfl⟩) (by omega)
    refine ⟨r, m + 1, (o, r, m), xs1, by omega, by omega, by omega, by omega, h1, h2, h3, rfl, f1.mono (by omega), ?_⟩
    rw [List.map_append]
    show _ = Res.ok Out.nx [some (.ol xs1), some (.ol (T.map tiD ++ [PyData.tuple [.str o, .int r, .int m]])), some (.sh (.str o)), some (.sh (.int r)), some (.sh (.int (m + 1))), k]
    unfold m_titles_2_b1
    simp?! only [e1, q, t3, sz]
end Lw
namespace Lw
open PySem L2 PySem.W PySem.SeqAt Eg
theorem title_b2 {xs : List PyData} {n : Nat} {T : List Ti} {o : Str} {a3 a4 a5 : Option OD} (hf : FeedAt xs n) (hn : n < 600000) (hT : T.length ≤ 50) (ho : o = Str.ofString "elm" ∨ o = Str.ofString "oak")
    (hb : ∀ t ∈ T, t.1 ≠ o) (nd : T.Nodup) (tf : ∀ t ∈ T, Tf t) :
    ∃ (U : List Ti) (xs' : List PyData) (b3 b4 b5 : Option OD), U.length ≤ 4 ∧ (T ++ U).Nodup ∧ (∀ t ∈ T ++ U, Tf t) ∧ (∀ t ∈ U, t.1 = o) ∧ FeedAt xs' (n + 9) ∧
      m_titles_2_b2 [some (.ol xs), some (.ol (T.map tiD)), some (.sh (.str o)), a3, a4, a5] = .ok .nx [some (.ol xs'), some (.ol ((T ++ U).map tiD)), some (.sh (.str o)), b3, b4, b5] := by
  have z := sizeLine_eq
  obtain ⟨v, xs1, v0, v1, f1, e1⟩ := drawX (many := 5) hf (by omega) (by decide) (by decide)
  have t2 : ∀ a b : PyData, tupG [a, b] = some (.tuple [a, b]) := fun _ _ => if_pos (show 2 ≤ sizeLine by decide)
  have rg := rng1_natX (j := v) v0 (by omega)
  obtain ⟨ρ', e2, xs2, U, r, m, b5, rfl, ul, r0, r1, m0, m1, hb', nd', tf', uo, f2⟩ := loop_inv (f := fun i : Nat => PyData.int (i : Int)) (t := tName 5) (b := m_titles_2_b1)
    (fun rest ρ => ∃ (xs : List PyData) (U : List Ti) (r m : Int) (b5 : Option OD), ρ = [some (.ol xs), some (.ol ((T ++ U).map tiD)), some (.sh (.str o)), some (.sh (.int r)), some (.sh (.int m)), b5] ∧ U.length + rest.length = v.toNat ∧ 0 ≤ r ∧ r ≤ 2 * (U.length : Int) ∧ 0 ≤ m ∧ m ≤ (U.length : Int) ∧ (∀ t ∈ T ++ U, t.1 = o → Bel t r m) ∧ (T ++ U).Nodup ∧ (∀ t ∈ T ++ U, Tf t) ∧ (∀ t ∈ U, t.1 = o) ∧ FeedAt xs (n + 1 + 2 * U.length)) (by
      rintro i rest ρ ⟨xs, U, r, m, b5, rfl, ul, r0, r1, m0, m1, hb, nd, tf, uo, f⟩
      rw [List.length_cons] at ul
      obtain ⟨r', m', t', xs', h1, h2, h3, h4, h5, h6, h7, ho', h8, e⟩ := title_b1 (T := T ++ U) (o := o) (k := some (.sh (.int (i : Int)))) f (by omega) (by rw [List.length_append]; omega) ho r0 (by omega) m0 (by omega) hb nd tf
      rw [List.append_assoc] at h5 h6 h7 e
      refine ⟨_, _, rfl, .inl e, xs', U ++ [t'], r', m', _, rfl, by rw [List.length_append, List.length_singleton]; omega, by omega, by rw [List.length_append, List.length_singleton]; omega, by omega, by rw [List.length_append, List.length_singleton]; omega, h5, h6, h7, fun t ht => ?_, by rw [List.length_append, List.length_singleton]; exact h8.mono (by omega)⟩
      rcases List.mem_append.mp ht with q | q
      · exact uo t q
      · rw [List.mem_singleton.mp q]; exact ho') (List.range v.toNat) [some (.ol xs1), some (.ol (T.map tiD)), some (.sh (.str o)), some (.sh (.int 0)), some (.sh (.int 0)), a5]
    ⟨xs1, [], 0, 0, a5, by rw [List.append_nil], by simp, by omega, by simp, by omega, by simp, by rw [List.append_nil]; exact fun t ht e => absurd e (hb t ht), by rw [List.append_nil]; exact nd, by rw [List.append_nil]; exact tf, (fun t h => nomatch h), by simpa using f1⟩
  rw [List.length_nil] at ul
  have et : ∀ {a0 a1 a2 a3 a4 a5 : Option OD} {x y : PyData}, tTup [tName 3, tName 4] (.tuple [x, y]) [a0, a1, a2, a3, a4, a5] = some [a0, a1, a2, some (.sh x), some (.sh y), a5] := rfl
  refine ⟨U, xs2, some (.sh (.int r)), some (.sh (.int m)), b5, by omega, nd', tf', uo, f2.mono (by omega), ?_⟩
  unfold m_titles_2_b2
  simp?! only [t2, et, e1, rg, e2]
theorem titles37 {xs : List PyData} {n : Nat} (hf : FeedAt xs n) (hn : n < 500000) :
    ∃ (T : List Ti) (xs' : List PyData), T.length ≤ 8 ∧ T.Nodup ∧ (∀ t ∈ T, Tf t) ∧ FeedAt xs' (n + 18) ∧ fn_titles_2 [some (.ol xs)] = .ok (.ol (T.map tiD)) [some (.ol xs')] := by
  have z := sizeLine_eq
  obtain ⟨U, xs1, b3, b4, b5, u1, u2, u3, u4, f1, e1⟩ := title_b2 (T := []) (o := Str.ofString "elm") (a3 := none) (a4 := none) (a5 := none) hf (by omega) (by decide) (.inl rfl) (fun t h => nomatch h) .nil (fun t h => nomatch h)
  rw [List.nil_append] at u2 u3 e1
  obtain ⟨U2, xs2, c3, c4, c5, w1, w2, w3, w4, f2, e2⟩ := title_b2 (T := U) (o := Str.ofString "oak") (a3 := b3) (a4 := b4) (a5 := b5) f1 (by omega) (by omega) (.inr rfl) (fun t h e => by rw [u4 t h] at e; exact absurd e (by decide +kernel)) u2 u3
  have l0 : lstG [] = some (.ol []) := lstG_ok (by decide)
  have t2 : ∀ a b : PyData, tupG [a, b] = some (.tuple [a, b]) := fun _ _ => if_pos (show 2 ≤ sizeLine by decide)
  have e1 : m_titles_2_b2 [some (.ol xs), some (.ol []), some (.sh (.str (Str.ofString "elm"))), none, none, none] = _ := e1
  have tn : ∀ {a0 a1 a2 a3 a4 a5 : Option OD} {d : PyData}, tName 2 d [a0, a1, a2, a3, a4, a5] = some [a0, a1, some (.sh d), a3, a4, a5] := rfl
  refine ⟨U ++ U2, xs2, by rw [List.length_append]; omega, w2, w3, f2.mono (by omega), ?_⟩
  unfold fn_titles_2 m_titles_2
  simp?! only [l0, t2, v_lp1, v_lp0, tn, e1, e2, v_lpO, v_lpn]
theorem pool37 {T P : List Ti} {a0 a3 a4 a5 a6 : Option OD} (hl : T.length ≤ 100) :
    mComp ((mName 1).bind seqItems) (tName 7) m_slips_t2 m_slips_e1 [7] [a0, some (.sh (.list (T.map tiD))), some (.sh (.list (P.map tiD))), a3, a4, a5, a6, none] =
      .ok (.ol ((T.filter fun t => !decide (t ∈ P)).map tiD)) [a0, some (.sh (.list (T.map tiD))), some (.sh (.list (P.map tiD))), a3, a4, a5, a6, none] := by
  have z := sizeLine_eq
  refine comp_filt (f := tiD) (fun t => !decide (t ∈ P)) tiD (by simp?! only []) (by omega) fun t _ => ⟨[a0, some (.sh (.list (T.map tiD))), some (.sh (.list (P.map tiD))), a3, a4, a5, a6, some (.sh (tiD t))], [a0, some (.sh (.list (T.map tiD))), some (.sh (.list (P.map tiD))), a3, a4, a5, a6, some (.sh (tiD t))], rfl, ?_, rfl, fun _ => ⟨_, rfl, rfl⟩⟩
  have gn := gNotIn_ti P t
  unfold m_slips_t2
  simp?! only [gn]
end Lw
namespace Lw
open PySem L2 PySem.W PySem.SeqAt Eg
structure Sl where
  t : Ti
  G : List Hand
  w : PyData
def slD (s : Sl) : PyData := .tuple [tiD s.t, .tuple (s.G.map hd), s.w]
structure SlF (s : Sl) : Prop where
  t : Th 40 60 1 (tiD s.t)
  G : ∀ h ∈ s.G, h ∈ folk37
  l : s.G.length ≤ 3
  w : s.w = ysD ∨ s.w = noD
theorem alikeAll_hds : ∀ (a b : List Hand), alikeAll (a.map hd) (b.map hd) = true
  | [], b => by cases b <;> simp [alikeAll]
  | x :: a, [] => by simp [alikeAll]
  | x :: a, y :: b => by
    have h := alikeAll_hds a b
    have h2 := hd_alike x y
    rw [List.map_cons, List.map_cons]
    simp only [alikeAll, h, h2, Bool.and_self]
theorem sl_alike {a b : Sl} (ha : SlF a) (hb : SlF b) : alike (slD a) (slD b) = true := by
  have h1 := ti_alike a.t b.t
  have h2 := alikeAll_hds a.G b.G
  have h3 : alike a.w b.w = true := by
    rcases ha.w with e | e <;> rcases hb.w with e2 | e2 <;> rw [e, e2] <;> simp [ysD, noD, alike]
  unfold slD
  simp only [alike, alikeAll, h1, h2, h3, Bool.and_self]
theorem word_th {w : PyData} (h : w = ysD ∨ w = noD) : Th 40 20 0 w := by
  rcases h with rfl | rfl
  · exact Th.ofB (show thB 40 20 0 (.str (Str.ofString "yes")) = true by decide +kernel) (by decide)
  · exact Th.ofB (show thB 40 20 0 (.str (Str.ofString "no")) = true by decide +kernel) (by decide)
theorem hds37_th {l : List Hand} (h : ∀ x ∈ l, x ∈ folk37) : Th 40 (l.length * 42 + 3) 2 (.tuple (l.map hd)) := by
  have := Ths.all (q := 40) (n := 40) (k := 1) (by decide) (ds := l.map hd) fun d hd' => by
    obtain ⟨x, hx, rfl⟩ := List.mem_map.mp hd'
    exact Th.ofB (folk37_th x (h x hx)) (by decide)
  rw [List.length_map] at this
  exact this.tup
theorem sl_th {s : Sl} (h : SlF s) : Th 40 300 3 (slD s) := by
  have a : Th 40 60 2 (tiD s.t) := h.t.mono (by omega) (by omega)
  have b : Th 40 129 2 (.tuple (s.G.map hd)) := (hds37_th h.G).mono (by have := h.l; omega) (by omega)
  have c : Th 40 20 2 s.w := (word_th h.w).mono (by omega) (by omega)
  exact (Ths.cons a (Ths.cons b (Ths.cons c (Ths.nil (n := 0) (by decide))))).tup.mono (by omega) (by omega)
theorem sorted_sl {l : List Sl} (h : ∀ s ∈ l, SlF s) (hl : l.length ≤ 100) : ∃ m : List Sl, (∀ t ∈ m, t ∈ l) ∧ m.length = l.length ∧ gSorted [.list (l.map slD)] = some (.ol (m.map slD)) := by
  have z := sizeLine_eq
  have sm : ∀ s ∈ l, small (slD s) = true := fun s hs => decide_eq_true (by have := (sl_th (h s hs)).k; omega)
  have so : sortOk (l.map slD) = true := by
    simp only [sortOk, alikeB, Bool.and_eq_true, Bool.or_eq_true, List.all_eq_true, decide_eq_true_eq, List.mem_map, forall_exists_index, and_imp, forall_apply_eq_imp_iff₂, List.length_map]
    exact ⟨⟨⟨fun a ha b hb => sl_alike (h a ha) (h b hb), .inl fun a _ => rfl⟩, fun a ha => sm a ha⟩, by omega⟩
  have pm : (sortD (l.map slD)).Perm (l.map slD) := List.mergeSort_perm _ _
  obtain ⟨m, hm⟩ : ∃ m : List {s : Sl // s ∈ l}, sortD (l.map slD) = m.map fun s => slD s.1 := map_choose (f := fun s : {s : Sl // s ∈ l} => slD s.1) (R := sortD (l.map slD)) fun d hd => by
    obtain ⟨x, hx, rfl⟩ := List.mem_map.mp (pm.mem_iff.mp hd)
    exact ⟨⟨x, hx⟩, rfl⟩
  refine ⟨m.map (·.1), fun t ht => ?_, ?_, ?_⟩
  · obtain ⟨x, _, rfl⟩ := List.mem_map.mp ht
    exact x.2
  · have := pm.length_eq
    rw [hm, List.length_map, List.length_map] at this
    rw [List.length_map]; exact this
  · simp only [gSorted]
    rw [if_pos so, hm, List.map_map]
    rfl
theorem slip_b3 {xs : List PyData} {n : Nat} {P : List Ti} {S : List Sl} {a1 a2 a5 a6 a7 : Option OD} (hf : FeedAt xs n) (hn : n < 600000) (hP : 0 < P.length) (hP2 : P.length < 100) (hS : S.length < 100) (tP : ∀ t ∈ P, Th 40 60 1 (tiD t)) :
    ∃ (s : Sl) (P' : List Ti) (xs' : List PyData) (b6 : Option OD), SlF s ∧ (∀ t ∈ P', t ∈ P) ∧ P'.length + 1 = P.length ∧ FeedAt xs' (n + 9) ∧
      m_slips_b3 [some (.ol xs), a1, a2, some (.ol (P.map tiD)), some (.ol (S.map slD)), a5, a6, a7] = .ok .nx [some (.ol xs'), a1, a2, some (.ol (P'.map tiD)), some (.ol ((S ++ [s]).map slD)), a5, b6, a7] := by
  have z := sizeLine_eq
  obtain ⟨v, xs1, v0, v1, f1, e1⟩ := drawX (many := (P.length : Int)) hf (by omega) (by omega) (by omega)
  have glen : gLen [.list (P.map tiD)] = some (.sh (.int (P.length : Int))) := by rw [gLen_any, List.length_map]
  have v1' : v < ((P.map tiD).length : Int) := by rw [List.length_map]; exact v1
  obtain ⟨y, ey, ep⟩ := v_popk (i := 3) v0 v1' (by rw [List.length_map]; omega)
  obtain ⟨t, ht, rfl⟩ : ∃ t, P[v.toNat]? = some t ∧ tiD t = y := by
    rw [List.getElem?_map] at ey
    cases q : P[v.toNat]? with
    | none => rw [q] at ey; cases ey
    | some h => rw [q] at ey; cases ey; exact ⟨h, rfl, rfl⟩
  have em : (P.map tiD).eraseIdx v.toNat = (P.eraseIdx v.toNat).map tiD := er_map _ _ _
  rw [em] at ep
  obtain ⟨v2, xs2, v20, v21, f2, e2⟩ := drawX (many := 3) f1 (by omega) (by decide) (by decide)
  obtain ⟨G, xs3, g1, g2, g3, f3, e3⟩ := some37 (F := folk37) (D := .list (folk37.map hd)) (v := 1 + v2) f2 (by omega) rfl (by decide) (by omega) (by omega)
  obtain ⟨v4, xs4, v40, v41, f4, e4⟩ := drawX (many := 2) f3 (by have : folk37.length = 6 := rfl; omega) (by decide) (by decide)
  obtain ⟨w, hw, ew⟩ : ∃ w, (w = ysD ∨ w = noD) ∧ gIx (.list [.str (Str.ofString "yes"), .str (Str.ofString "no")]) (.int v4) = some w := by
    have : v4 = 0 ∨ v4 = 1 := by omega
    rcases this with rfl | rfl
    · exact ⟨_, .inl rfl, rfl⟩
    · exact ⟨_, .inr rfl, rfl⟩
  have efo := folkd37
  have l2 : ∀ a b : PyData, lstG [a, b] = some (.ol [a, b]) := fun _ _ => if_pos (show 2 ≤ sizeLine by decide)
  have t3 : ∀ a b c : PyData, tupG [a, b, c] = some (.tuple [a, b, c]) := fun _ _ _ => if_pos (show 3 ≤ sizeLine by decide)
  have sz : (S.map slD).length < sizeLine := by rw [List.length_map]; omega
  refine ⟨⟨t, G, w⟩, P.eraseIdx v.toNat, xs4, some (.sh (tiD t)), ⟨tP t (List.mem_of_getElem? ht), g1, by show G.length ≤ 3; omega, hw⟩, fun t ht => List.mem_of_mem_eraseIdx ht, er_len (by omega), f4.mono (by have : folk37.length = 6 := rfl; omega), ?_⟩
  rw [List.map_append]
  show _ = Res.ok Out.nx [some (.ol xs4), a1, a2, some (.ol ((P.eraseIdx v.toNat).map tiD)), some (.ol (S.map slD ++ [PyData.tuple [tiD t, .tuple (G.map hd), w]])), a5, some (.sh (tiD t)), a7]
  unfold m_slips_b3
  simp?! only [glen, e1, v_pop, ep, efo, e2, e3, e4, ew, l2, t3, sz, v_pick, v_pk0, v_pkl, v_pkr, List.getD_cons_zero]
theorem slips37 {xs : List PyData} {n : Nat} {T P : List Ti} (hf : FeedAt xs n) (hn : n < 500000) (hT : T.length ≤ 8) (tf : ∀ t ∈ T, Tf t) :
    ∃ (S : List Sl) (xs' : List PyData), S.length ≤ 2 ∧ (∀ s ∈ S, SlF s) ∧ FeedAt xs' (n + 19) ∧ fn_slips [some (.ol xs), some (.sh (.list (T.map tiD))), some (.sh (.list (P.map tiD)))] = .ok (.sh (.tuple (S.map slD))) [some (.ol xs'), none, none] := by
  have z := sizeLine_eq
  obtain ⟨v, xs1, v0, v1, f1, e1⟩ := drawX (many := 3) hf (by omega) (by decide) (by decide)
  have rg := rng1_natX (j := v) v0 (by omega)
  obtain ⟨R, eR⟩ : ∃ R : List Ti, R = (T.filter fun t => !decide (t ∈ P)) ++ [(Str.ofString "ash", 0, 0), (Str.ofString "oak", 7, 1)] := ⟨_, rfl⟩
  have rl : 2 ≤ R.length ∧ R.length ≤ 10 := by
    have := List.length_filter_le (fun t => !decide (t ∈ P)) T
    rw [eR, List.length_append]
    show 2 ≤ _ + 2 ∧ _ + 2 ≤ 10
    omega
  have rt : ∀ t ∈ R, Th 40 60 1 (tiD t) := fun t ht => by
    rw [eR] at ht
    rcases List.mem_append.mp ht with q | q
    · exact (tf t (List.mem_filter.mp q).1).tt.th
    · rcases List.mem_cons.mp q with rfl | q
      · exact Th.ofB (by decide +kernel) (by decide)
      · rw [List.mem_singleton.mp q]; exact Th.ofB (by decide +kernel) (by decide)
  have ad : aAdd (.list ((T.filter fun t => !decide (t ∈ P)).map tiD)) (.list [.tuple [.str (Str.ofString "ash"), .int 0, .int 0], .tuple [.str (Str.ofString "oak"), .int 7, .int 1]]) = some (.ol (R.map tiD)) := by
    rw [eR, List.map_append]
    refine aAdd_ll ?_
    rw [List.length_map]
    have := List.length_filter_le (fun t => !decide (t ∈ P)) T
    show _ + 2 ≤ _
    omega
  have ep := pool37 (T := T) (P := P) (a0 := some (.ol xs)) (a3 := none) (a4 := none) (a5 := none) (a6 := none) (by omega)
  obtain ⟨ρ', e2, xs2, Q, S, b5, b6, rfl, hS, sl, ql, qt, f2⟩ := loop_inv (f := fun i : Nat => PyData.int (i : Int)) (t := tName 5) (b := m_slips_b3)
    (fun rest ρ => ∃ (xs : List PyData) (Q : List Ti) (S : List Sl) (b5 b6 : Option OD), ρ = [some (.ol xs), some (.sh (.list (T.map tiD))), some (.sh (.list (P.map tiD))), some (.ol (Q.map tiD)), some (.ol (S.map slD)), b5, b6, none] ∧ (∀ s ∈ S, SlF s) ∧ S.length + rest.length = v.toNat ∧ Q.length + S.length = R.length ∧ (∀ t ∈ Q, t ∈ R) ∧ FeedAt xs (n + 1 + 9 * S.length)) (by
      rintro i rest ρ ⟨xs, Q, S, b5, b6, rfl, hS, sl, ql, qt, f⟩
      rw [List.length_cons] at sl
      obtain ⟨s, Q', xs', b6', h1, h2, h3, h4, e⟩ := slip_b3 (P := Q) (S := S) (a1 := some (.sh (.list (T.map tiD)))) (a2 := some (.sh (.list (P.map tiD)))) (a5 := some (.sh (.int (i : Int)))) (a6 := b6) (a7 := none) f (by omega) (by omega) (by omega) (by omega) fun t ht => rt t (qt t ht)
      refine ⟨_, _, rfl, .inl e, xs', Q', S ++ [s], _, b6', rfl, fun x hx => ?_, by rw [List.length_append, List.length_singleton]; omega, by rw [List.length_append, List.length_singleton]; omega, fun t ht => qt t (h2 t ht), by rw [List.length_append, List.length_singleton]; exact h4.mono (by omega)⟩
      rcases List.mem_append.mp hx with q | q
      · exact hS x q
      · rw [List.mem_singleton.mp q]; exact h1) (List.range v.toNat) [some (.ol xs1), some (.sh (.list (T.map tiD))), some (.sh (.list (P.map tiD))), some (.ol (R.map tiD)), some (.ol []), none, none, none]
    ⟨xs1, R, [], none, none, rfl, (fun s h => nomatch h), by simp, by simp, fun t h => h, by simpa using f1⟩
  rw [List.length_nil] at sl
  obtain ⟨m, m1, m2, gs⟩ := sorted_sl hS (by omega)
  have l0 : lstG [] = some (.ol []) := lstG_ok (by decide)
  have l2 : ∀ a b : PyData, lstG [a, b] = some (.ol [a, b]) := fun _ _ => if_pos (show 2 ≤ sizeLine by decide)
  have t3 : ∀ a b c : PyData, tupG [a, b, c] = some (.tuple [a, b, c]) := fun _ _ _ => if_pos (show 3 ≤ sizeLine by decide)
  refine ⟨m, xs2, by omega, fun s hs => hS s (m1 s hs), f2.mono (by omega), ?_⟩
  unfold fn_slips m_slips
  simp?! only [ep, l2, t3, ad, l0, e1, rg, e2, gs, gTup_l]
end Lw
namespace Lw
open PySem L2 PySem.W PySem.SeqAt Eg
theorem cut_map {α : Type} (f : α → PyData) (l : List α) (lo hi : Option Int) : ∃ U : List α, (∀ x ∈ U, x ∈ l) ∧ U.length ≤ l.length ∧ cutD (l.map f) lo hi = U.map f := by
  refine ⟨(l.drop (HT.sIx (l.map f).length 0 lo)).take (HT.sIx (l.map f).length (l.map f).length hi - HT.sIx (l.map f).length 0 lo), fun x hx => List.mem_of_mem_drop (List.mem_of_mem_take hx), ?_, ?_⟩
  · rw [List.length_take, List.length_drop]; omega
  · unfold cutD
    rw [← List.map_drop, ← List.map_take]
def pactD (a b w : Int) : PyData := .tuple [.tuple [.str (Str.ofString "elm"), .str (Str.ofString "oak")], .int a, .int b, .int w]
theorem vote_th {x : Hand} {w : PyData} (h : x ∈ folk37) (hw : w = ysD ∨ w = noD) : Th 40 80 2 (.tuple [hd x, w]) := by
  have a : Th 40 40 1 (hd x) := Th.ofB (folk37_th x h) (by decide)
  have c : Th 40 20 1 w := (word_th hw).mono (by omega) (by omega)
  exact (Ths.cons a (Ths.cons c (Ths.nil (n := 0) (by decide)))).tup.mono (by omega) (by omega)
theorem vote_b1 {xs V : List PyData} {n : Nat} {W : List Hand} {x : Hand} {w : PyData} {a1 a2 a4 : Option OD} (hf : FeedAt xs n) (hn : n < 600000) (hV : V.length < 100) (hx : x ∈ folk37) (hw : w = ysD ∨ w = noD) (tV : ∀ d ∈ V, Th 40 80 2 d) :
    ∃ (V' xs' : List PyData), (∀ d ∈ V', Th 40 80 2 d) ∧ V'.length ≤ V.length + 1 ∧ FeedAt xs' (n + 1) ∧
      m_votes_b1 [some (.ol xs), a1, a2, some (.ol V), a4, some (.sh w), some (.sh (.tuple (W.map hd))), some (.sh (hd x))] = .ok .nx [some (.ol xs'), a1, a2, some (.ol V'), a4, some (.sh w), some (.sh (.tuple (W.map hd))), some (.sh (hd x))] := by
  have z := sizeLine_eq
  have gi := gIn_hd (l := W) (x := x)
  have t2 : ∀ a b : PyData, tupG [a, b] = some (.tuple [a, b]) := fun _ _ => if_pos (show 2 ≤ sizeLine by decide)
  have sz : V.length < sizeLine := by omega
  have add : ∀ {w : PyData}, (w = ysD ∨ w = noD) → ∀ d ∈ V ++ [.tuple [hd x, w]], Th 40 80 2 d := fun {w} hw d hd' => by
    rcases List.mem_append.mp hd' with q | q
    · exact tV d q
    · rw [List.mem_singleton.mp q]; exact vote_th hx hw
  by_cases q : x ∈ W
  · rw [decide_eq_true q] at gi
    refine ⟨V ++ [.tuple [hd x, w]], xs, add hw, by rw [List.length_append, List.length_singleton]; omega, hf.mono (by omega), ?_⟩
    unfold m_votes_b1
    simp?! only [gi, t2, sz]
  · rw [decide_eq_false q] at gi
    obtain ⟨v, xs1, v0, v1, f1, e1⟩ := drawX (many := 2) hf (by omega) (by decide) (by decide)
    by_cases q2 : v = 0
    · subst q2
      rcases hw with rfl | rfl
      · have ge : gEq ysD (.str (Str.ofString "yes")) = some (.bool true) := rfl
        refine ⟨V ++ [.tuple [hd x, noD]], xs1, add (.inr rfl), by rw [List.length_append, List.length_singleton]; omega, f1.mono (by omega), ?_⟩
        unfold m_votes_b1
        simp?! only [gi, t2, sz, e1, ge]
        rfl
      · have ge : gEq noD (.str (Str.ofString "yes")) = some (.bool false) := rfl
        refine ⟨V ++ [.tuple [hd x, ysD]], xs1, add (.inl rfl), by rw [List.length_append, List.length_singleton]; omega, f1.mono (by omega), ?_⟩
        unfold m_votes_b1
        simp?! only [gi, t2, sz, e1, ge]
        rfl
    · refine ⟨V, xs1, tV, by omega, f1.mono (by omega), ?_⟩
      unfold m_votes_b1
      simp?! only [gi, e1, q2]
theorem yn_at {v : Int} (v0 : 0 ≤ v) (v1 : v < 2) : ∃ w, (w = ysD ∨ w = noD) ∧ gIx (.list [.str (Str.ofString "yes"), .str (Str.ofString "no")]) (.int v) = some w := by
  have : v = 0 ∨ v = 1 := by omega
  rcases this with rfl | rfl
  · exact ⟨_, .inl rfl, rfl⟩
  · exact ⟨_, .inr rfl, rfl⟩
theorem vote_b2 {xs V : List PyData} {n : Nat} {x : Hand} {a1 a2 a4 a5 a6 : Option OD} (hf : FeedAt xs n) (hn : n < 600000) (hV : V.length < 100) (hx : x ∈ folk37) (tV : ∀ d ∈ V, Th 40 80 2 d) :
    ∃ (V' xs' : List PyData), (∀ d ∈ V', Th 40 80 2 d) ∧ V'.length ≤ V.length + 1 ∧ FeedAt xs' (n + 2) ∧
      m_votes_b2 [some (.ol xs), a1, a2, some (.ol V), a4, a5, a6, some (.sh (hd x))] = .ok .nx [some (.ol xs'), a1, a2, some (.ol V'), a4, a5, a6, some (.sh (hd x))] := by
  have z := sizeLine_eq
  have t2 : ∀ a b : PyData, tupG [a, b] = some (.tuple [a, b]) := fun _ _ => if_pos (show 2 ≤ sizeLine by decide)
  have l2 : ∀ a b : PyData, lstG [a, b] = some (.ol [a, b]) := fun _ _ => if_pos (show 2 ≤ sizeLine by decide)
  have sz : V.length < sizeLine := by omega
  obtain ⟨v, xs1, v0, v1, f1, e1⟩ := drawX (many := 2) hf (by omega) (by decide) (by decide)
  by_cases q : v = 0
  · subst q
    obtain ⟨v2, xs2, v20, v21, f2, e2⟩ := drawX (many := 2) f1 (by omega) (by decide) (by decide)
    obtain ⟨w, hw, ew⟩ := yn_at v20 v21
    refine ⟨V ++ [.tuple [hd x, w]], xs2, fun d hd' => ?_, by rw [List.length_append, List.length_singleton]; omega, f2.mono (by omega), ?_⟩
    · rcases List.mem_append.mp hd' with q | q
      · exact tV d q
      · rw [List.mem_singleton.mp q]; exact vote_th hx hw
    · unfold m_votes_b2
      simp?! only [e1, e2, ew, t2, l2, sz]
  · refine ⟨V, xs1, tV, by omega, f1.mono (by omega), ?_⟩
    unfold m_votes_b2
    simp?! only [e1, q]
theorem votes37 {xs : List PyData} {n : Nat} {G : List Hand} {a b w : Int} (hf : FeedAt xs n) (hn : n < 500000) (hG : ∀ h ∈ G, h ∈ folk37) (gl : G.length ≤ 6) (b0 : 0 ≤ b) (b1 : b ≤ 10) :
    ∃ (V : List PyData) (en : PyData) (xs' : List PyData), (∀ d ∈ V, Th 40 80 2 d) ∧ V.length ≤ 6 ∧ en ∈ ends37 ∧ FeedAt xs' (n + 20) ∧ fn_votes [some (.ol xs), some (.sh (pactD a b w)), some (.sh (.tuple (G.map hd)))] = .ok (.sh (.tuple [.tuple V, en])) [some (.ol xs'), none, none] := by
  have z := sizeLine_eq
  obtain ⟨v, xs1, v0, v1, f1, e1⟩ := drawX (many := 4) hf (by omega) (by decide) (by decide)
  have l0 : lstG [] = some (.ol []) := lstG_ok (by decide)
  have l2 : ∀ a b : PyData, lstG [a, b] = some (.ol [a, b]) := fun _ _ => if_pos (show 2 ≤ sizeLine by decide)
  have l4 : ∀ a b c d : PyData, lstG [a, b, c, d] = some (.ol [a, b, c, d]) := fun _ _ _ _ => if_pos (show 4 ≤ sizeLine by decide)
  have t2 : ∀ a b : PyData, tupG [a, b] = some (.tuple [a, b]) := fun _ _ => if_pos (show 2 ≤ sizeLine by decide)
  have p2 : gIx (pactD a b w) (.int 2) = some (.int b) := rfl
  have glen : gLen [.tuple (G.map hd)] = some (.sh (.int (G.length : Int))) := by
    show some (OD.sh (.int ((G.map hd).length : Int))) = _
    rw [List.length_map]
  obtain ⟨U, u1, u2, ec⟩ := cut_map hd G none (some (b - 1))
  have gs : gSl (.tuple (G.map hd)) none (some (b - 1)) = some (.sh (.tuple (U.map hd))) := by rw [gSl_t, ec]
  have second : ∀ {xs1 : List PyData} {v : Int}, FeedAt xs1 (n + 1) → ∃ (V : List PyData) (en : PyData) (xs2 xs3 : List PyData) (c7 : Option OD) (v4 : Int), (∀ d ∈ V, Th 40 80 2 d) ∧ V.length ≤ 6 ∧ en ∈ ends37 ∧ FeedAt xs3 (n + 20) ∧
      sLoop (tName 7) m_votes_b2 (U.map hd) [some (.ol xs1), some (.sh (pactD a b w)), some (.sh (.tuple (G.map hd))), some (.ol []), some (.sh (.int v)), none, none, none] = .ok .nx [some (.ol xs2), some (.sh (pactD a b w)), some (.sh (.tuple (G.map hd))), some (.ol V), some (.sh (.int v)), none, none, c7] ∧
      fn_draw_2 [some (.ol xs2), some (.sh (.int 4))] = .ok (.sh (.int v4)) [some (.ol xs3), none] ∧ gIx (.list [.none, .none, .str (Str.ofString "laid"), .str (Str.ofString "broken")]) (.int v4) = some en := fun {xs1 v} f1 => by
    obtain ⟨ρ', el, xs2, V, c7, rfl, tV, vl, f2, _⟩ := loop_inv (f := hd) (t := tName 7) (b := m_votes_b2)
      (fun rest ρ => ∃ (xs V : List PyData) (c7 : Option OD), ρ = [some (.ol xs), some (.sh (pactD a b w)), some (.sh (.tuple (G.map hd))), some (.ol V), some (.sh (.int v)), none, none, c7] ∧ (∀ d ∈ V, Th 40 80 2 d) ∧ V.length + rest.length ≤ U.length ∧ FeedAt xs (n + 1 + 2 * (U.length - rest.length)) ∧ ∀ h ∈ rest, h ∈ U) (by
        rintro x rest ρ ⟨xs, V, c7, rfl, tV, vl, f, hr⟩
        rw [List.length_cons] at vl f
        obtain ⟨V', xs', h1, h2, h3, e⟩ := vote_b2 (x := x) (a1 := some (.sh (pactD a b w))) (a2 := some (.sh (.tuple (G.map hd)))) (a4 := some (.sh (.int v))) (a5 := none) (a6 := none) f (by omega) (by omega) (hG x (u1 x (hr x List.mem_cons_self))) tV
        exact ⟨_, _, rfl, .inl e, xs', V', _, rfl, h1, by omega, h3.mono (by omega), fun h hh => hr h (List.mem_cons_of_mem _ hh)⟩) U [some (.ol xs1), some (.sh (pactD a b w)), some (.sh (.tuple (G.map hd))), some (.ol []), some (.sh (.int v)), none, none, none]
      ⟨xs1, [], none, rfl, (fun d h => nomatch h), by simp, by simpa using f1, fun h hh => hh⟩
    rw [List.length_nil] at vl f2
    obtain ⟨v4, xs3, v40, v41, f3, e4⟩ := drawX (many := 4) f2 (by omega) (by decide) (by decide)
    obtain ⟨en, he, ge⟩ : ∃ en, en ∈ ends37 ∧ gIx (.list [.none, .none, .str (Str.ofString "laid"), .str (Str.ofString "broken")]) (.int v4) = some en := by
      have : v4 = 0 ∨ v4 = 1 ∨ v4 = 2 ∨ v4 = 3 := by omega
      rcases this with rfl | rfl | rfl | rfl
      · exact ⟨.none, by simp [ends37], rfl⟩
      · exact ⟨.none, by simp [ends37], rfl⟩
      · exact ⟨.str (Str.ofString "laid"), by simp [ends37], rfl⟩
      · exact ⟨.str (Str.ofString "broken"), by simp [ends37], rfl⟩
    exact ⟨V, en, xs2, xs3, c7, v4, tV, by omega, he, f3.mono (by omega), el, e4, ge⟩
  by_cases q : 0 < v
  · by_cases q2 : b ≤ (G.length : Int)
    · obtain ⟨v2, xs2, v20, v21, f2, e2⟩ := drawX (many := 2) f1 (by omega) (by decide) (by decide)
      obtain ⟨wd, hw, ew⟩ := yn_at v20 v21
      obtain ⟨W, xs3, w1, w2, w3, f3, e3⟩ := some37 (F := G) (D := .tuple (G.map hd)) (v := b) f2 (by omega) (gList_t _) (by omega) b0 (by omega)
      obtain ⟨ρ', el, xs4, V, c7, rfl, tV, vl, f4, _⟩ := loop_inv (f := hd) (t := tName 7) (b := m_votes_b1)
        (fun rest ρ => ∃ (xs V : List PyData) (c7 : Option OD), ρ = [some (.ol xs), some (.sh (pactD a b w)), some (.sh (.tuple (G.map hd))), some (.ol V), some (.sh (.int v)), some (.sh wd), some (.sh (.tuple (W.map hd))), c7] ∧ (∀ d ∈ V, Th 40 80 2 d) ∧ V.length + rest.length ≤ G.length ∧ FeedAt xs (n + 1 + 1 + G.length + (G.length - rest.length)) ∧ ∀ h ∈ rest, h ∈ G) (by
          rintro x rest ρ ⟨xs, V, c7, rfl, tV, vl, f, hr⟩
          rw [List.length_cons] at vl f
          obtain ⟨V', xs', h1, h2, h3, e⟩ := vote_b1 (x := x) (W := W) (w := wd) (a1 := some (.sh (pactD a b w))) (a2 := some (.sh (.tuple (G.map hd)))) (a4 := some (.sh (.int v))) f (by omega) (by omega) (hG x (hr x List.mem_cons_self)) hw tV
          exact ⟨_, _, rfl, .inl e, xs', V', _, rfl, h1, by omega, h3.mono (by omega), fun h hh => hr h (List.mem_cons_of_mem _ hh)⟩) G [some (.ol xs3), some (.sh (pactD a b w)), some (.sh (.tuple (G.map hd))), some (.ol []), some (.sh (.int v)), some (.sh wd), some (.sh (.tuple (W.map hd))), none]
        ⟨xs3, [], none, rfl, (fun d h => nomatch h), by simp, by simpa using f3, fun h hh => hh⟩
      rw [List.length_nil] at vl f4
      refine ⟨V, wd, xs4, tV, by omega, by rcases hw with rfl | rfl <;> simp [ends37, ysD, noD], f4.mono (by omega), ?_⟩
      unfold fn_votes m_votes
      simp?! only [l0, e1, q, glen, p2, q2, l2, e2, ew, e3, el, t2, gTup_l]
    · obtain ⟨V, en, xs2, xs3, c7, v4, h1, h2, h3, h4, h5, h6, h7⟩ := second (v := v) f1
      refine ⟨V, en, xs3, h1, h2, h3, h4, ?_⟩
      unfold fn_votes m_votes
      simp?! only [l0, e1, q, glen, p2, q2, v_sl, gs, h5, l4, h6, h7, t2, gTup_l]
  · obtain ⟨V, en, xs2, xs3, c7, v4, h1, h2, h3, h4, h5, h6, h7⟩ := second (v := v) f1
    refine ⟨V, en, xs3, h1, h2, h3, h4, ?_⟩
    unfold fn_votes m_votes
    simp?! only [l0, e1, q, glen, p2, v_sl, gs, h5, l4, h6, h7, t2, gTup_l]
end Lw
namespace Eg
open PySem L2 PySem.W PySem.SeqAt
theorem lcO_filt {α : Type} {t : Tgt} {mt : M Bool} {me : M PyData} {vs : List Nat} {ρ : Rho} {l : List α} {f : α → PyData} {i : Nat} (b : α → Bool) (g : α → PyData) (hi : ρ[i]? = some (some (.ol (l.map f)))) (hv : i ∉ vs) (hl : l.length ≤ sizeLine)
    (step : ∀ x ∈ l, ∃ ρ1 ρ2, t (f x) (wipeR ρ vs) = some ρ1 ∧ mt ρ1 = .ok (b x) ρ2 ∧ wipeR ρ2 vs = wipeR ρ vs ∧ (b x = true → ∃ ρ3, me ρ2 = .ok (g x) ρ3 ∧ wipeR ρ3 vs = wipeR ρ vs)) :
    ∀ (S A : List α) (acc : List PyData) (r : Rho), l = A ++ S → acc.length ≤ A.length → wipeR r vs = wipeR ρ vs → ∃ r', wipeR r' vs = wipeR ρ vs ∧ lcGoO i t mt me vs (S.length + 1) A.length acc r = .ok (acc ++ (S.filter b).map g) r'
  | [], A, acc, r, e, ha, w => by
    refine ⟨r, w, ?_⟩
    have hr : r[i]? = some (some (.ol (l.map f))) := by rw [← wipeR_out (ρ := r) hv, w, wipeR_out hv]; exact hi
    have ek : (l.map f)[A.length]? = none := List.getElem?_eq_none (by rw [List.length_map, e, List.append_nil]; omega)
    simp only [lcGoO, hr, ek, List.length_nil]
    simp
  | x :: S, A, acc, r, e, ha, w => by
    have hr : r[i]? = some (some (.ol (l.map f))) := by rw [← wipeR_out (ρ := r) hv, w, wipeR_out hv]; exact hi
    have ek : (l.map f)[A.length]? = some (f x) := by rw [e, List.map_append, List.getElem?_append_right (by rw [List.length_map]; omega), List.length_map, Nat.sub_self]; rfl
    have la : A.length + (S.length + 1) = l.length := by rw [e, List.length_append, List.length_cons]
    obtain ⟨ρ1, ρ2, e1, e2, e3, e4⟩ := step x (by rw [e]; exact List.mem_append.mpr (.inr List.mem_cons_self))
    cases q : b x with
    | false =>
      obtain ⟨r', w', e'⟩ := lcO_filt b g hi hv hl step S (A ++ [x]) acc ρ2 (by rw [List.append_assoc]; exact e) (by rw [List.length_append, List.length_singleton]; omega) e3
      refine ⟨r', w', ?_⟩
      rw [List.length_append, List.length_singleton] at e'
      rw [q] at e2
      simp only [List.length_cons]
      rw [lcGoO]
      simp only [hr, ek, w, e1, e2]
      rw [e', List.filter_cons, q]
      rfl
    | true =>
      obtain ⟨ρ3, e5, e6⟩ := e4 q
      obtain ⟨r', w', e'⟩ := lcO_filt b g hi hv hl step S (A ++ [x]) (acc ++ [g x]) ρ3 (by rw [List.append_assoc]; exact e) (by rw [List.length_append, List.length_append, List.length_singleton, List.length_singleton]; omega) e6
      refine ⟨r', w', ?_⟩
      rw [List.length_append, List.length_singleton] at e'
      rw [q] at e2
      simp only [List.length_cons]
      rw [lcGoO]
      simp only [hr, ek, w, e1, e2, e5]
      rw [if_pos (by omega), e', List.filter_cons, q, List.append_assoc]
      rfl
theorem compO_filt {α : Type} {t : Tgt} {mt : M Bool} {me : M PyData} {vs : List Nat} {ρ : Rho} {l : List α} {f : α → PyData} {i : Nat} (b : α → Bool) (g : α → PyData) (hi : ρ[i]? = some (some (.ol (l.map f)))) (hv : vs.contains i = false) (hl : l.length ≤ sizeLine)
    (step : ∀ x ∈ l, ∃ ρ1 ρ2, t (f x) (wipeR ρ vs) = some ρ1 ∧ mt ρ1 = .ok (b x) ρ2 ∧ wipeR ρ2 vs = wipeR ρ vs ∧ (b x = true → ∃ ρ3, me ρ2 = .ok (g x) ρ3 ∧ wipeR ρ3 vs = wipeR ρ vs)) :
    mCompO i t mt me vs ρ = .ok (.ol ((l.filter b).map g)) ρ := by
  obtain ⟨r', w, e⟩ := lcO_filt b g hi (by simpa using hv) hl step l [] [] ρ rfl (Nat.le_refl _) rfl
  have hlen : r'.length = ρ.length := by rw [← wipeR_len r' vs, w, wipeR_len]
  unfold mCompO
  simp only [hi]
  rw [if_pos hv, List.length_map]
  rw [List.length_nil] at e
  rw [e]
  simp only
  rw [if_pos hlen, restR_self w, List.nil_append]
def caL (f : Fn) (ρ : Rho) (L : List (Option Nat)) (os : Option (List OD)) : Res OD := if apart L = true then (match os with
  | some os => (match f (os.map some) with
    | .ok r ρa => .ok r (backL ρ L ρa)
    | .ex x ρa => .ex x (backL ρ L ρa)
    | .bad => .bad)
  | none => .bad) else .bad
end Eg
namespace Lw
open PySem L2 PySem.W PySem.SeqAt Eg
section
variable {L : List Cs} {T : List Ti} {t : Ti} {xs : List PyData} {a1 a2 a5 a6 a7 a8 a9 a10 a11 a12 a13 a14 a15 : Option OD}
def under37 (t : Ti) (c : Cs) : Bool := decide (c.tag.1 = t.1) && isV c.en
theorem gEq_str37 (a b : Str) : gEq (.str a) (.str b) = some (.bool (decide (a = b))) := by
  unfold gEq
  rw [if_pos (by simp [small, PyData.depth])]
  simp only [PyData.eqv]
  congr 2
theorem unders37 (hF : ∀ c ∈ L, CsF c) (hl : L.length ≤ 100) :
    mCompO 3 (tName 16) m_case_t2 m_case_e1 [16] [some (.ol xs), a1, a2, some (.ol (L.map csD)), some (.sh (tiD t)), a5, a6, a7, a8, a9, a10, a11, a12, a13, a14, a15, none] =
      .ok (.ol ((L.filter (under37 t)).map fun c => tiD c.tag)) [some (.ol xs), a1, a2, some (.ol (L.map csD)), some (.sh (tiD t)), a5, a6, a7, a8, a9, a10, a11, a12, a13, a14, a15, none] := by
  have z := sizeLine_eq
  refine compO_filt (l := L) (f := csD) (under37 t) (fun c => tiD c.tag) rfl rfl (by omega) fun c hc => ⟨[some (.ol xs), a1, a2, some (.ol (L.map csD)), some (.sh (tiD t)), a5, a6, a7, a8, a9, a10, a11, a12, a13, a14, a15, some (.sh (csD c))], [some (.ol xs), a1, a2, some (.ol (L.map csD)), some (.sh (tiD t)), a5, a6, a7, a8, a9, a10, a11, a12, a13, a14, a15, some (.sh (csD c))], rfl, ?_, rfl, fun _ => ⟨[some (.ol xs), a1, a2, some (.ol (L.map csD)), some (.sh (tiD t)), a5, a6, a7, a8, a9, a10, a11, a12, a13, a14, a15, some (.sh (csD c))], ?_, rfl⟩⟩
  · have g0 := gIx_cs0 c
    have g6 := gIx_cs6 c
    have gv := gIn_V (hF c hc).en
    have i1 : gIx (tiD c.tag) (.int 0) = some (.str c.tag.1) := rfl
    have i2 : gIx (tiD t) (.int 0) = some (.str t.1) := rfl
    have ge := gEq_str37 c.tag.1 t.1
    have t2 : ∀ a b : PyData, tupG [a, b] = some (.tuple [a, b]) := fun _ _ => if_pos (show 2 ≤ sizeLine by decide)
    unfold m_case_t2 under37
    by_cases q : c.tag.1 = t.1
    · rw [decide_eq_true q] at ge ⊢
      simp?! only [g0, g6, gv, i1, i2, ge, t2]
    · rw [decide_eq_false q] at ge ⊢
      simp?! only [g0, g6, gv, i1, i2, ge, t2]
  · have g0 := gIx_cs0 c
    unfold m_case_e1
    simp?! only [g0]
theorem case_b6 {s : Ti} {c : Cs} {acc : List PyData} (hl : L.length ≤ 100) (hf : findS L s = some c) (ha : acc.length < 10000) :
    m_case_b6 [some (.ol xs), a1, a2, some (.ol (L.map csD)), some (.sh (tiD t)), a5, a6, some (.ol acc), some (.sh (tiD s)), a9, a10, a11, a12, a13, a14, a15, none] =
      .ok .nx [some (.ol xs), a1, a2, some (.ol (L.map csD)), some (.sh (tiD t)), a5, a6, some (.ol (acc ++ [tiD s])), some (.sh (unD c.under)), a9, a10, a11, a12, a13, a14, a15, none] := by
  have z := sizeLine_eq
  have ec : ∀ {a7 : Option OD}, mCompO 3 (tName 16) m_case_t4 m_case_e3 [16] [some (.ol xs), a1, a2, some (.ol (L.map csD)), some (.sh (tiD t)), a5, a6, a7, some (.sh (tiD s)), a9, a10, a11, a12, a13, a14, a15, none] =
      .ok (.ol ((L.filter fun c => decide (c.tag = s)).map fun c => unD c.under)) [some (.ol xs), a1, a2, some (.ol (L.map csD)), some (.sh (tiD t)), a5, a6, a7, some (.sh (tiD s)), a9, a10, a11, a12, a13, a14, a15, none] := fun {a7} => by
    refine compO_filt (l := L) (f := csD) (fun c => decide (c.tag = s)) (fun c => unD c.under) rfl rfl (by omega) fun c hc => ⟨[some (.ol xs), a1, a2, some (.ol (L.map csD)), some (.sh (tiD t)), a5, a6, a7, some (.sh (tiD s)), a9, a10, a11, a12, a13, a14, a15, some (.sh (csD c))], [some (.ol xs), a1, a2, some (.ol (L.map csD)), some (.sh (tiD t)), a5, a6, a7, some (.sh (tiD s)), a9, a10, a11, a12, a13, a14, a15, some (.sh (csD c))], rfl, ?_, rfl, fun _ => ⟨[some (.ol xs), a1, a2, some (.ol (L.map csD)), some (.sh (tiD t)), a5, a6, a7, some (.sh (tiD s)), a9, a10, a11, a12, a13, a14, a15, some (.sh (csD c))], ?_, rfl⟩⟩
    · have g0 := gIx_cs0 c
      have ge := gEq_ti c.tag s
      unfold m_case_t4
      simp?! only [g0, ge]
    · have g1 := gIx_cs1 c
      unfold m_case_e3
      simp?! only [g1]
  have hh : findS L s = (L.filter fun c => decide (c.tag = s)).head? := by unfold findS; rw [List.head?_filter]
  cases q : (L.filter fun c => decide (c.tag = s)) with
  | nil => rw [hf, q] at hh; cases hh
  | cons c' cs =>
    rw [hf, q] at hh
    cases hh
    rw [q] at ec
    have g0 : gIx (.list (unD c.under :: cs.map fun c => unD c.under)) (.int 0) = some (unD c.under) := by
      obtain ⟨A, e, B, e2, el, _, _, _, h⟩ := split_at (ds := unD c.under :: cs.map fun c => unD c.under) (v := 0) (by decide) (by rw [List.length_cons]; omega)
      have : A = [] := by rw [← el]; rfl
      subst this
      cases e2
      exact h
    have ec : ∀ {a7 : Option OD}, mCompO 3 (tName 16) m_case_t4 m_case_e3 [16] [some (.ol xs), a1, a2, some (.ol (L.map csD)), some (.sh (tiD t)), a5, a6, a7, some (.sh (tiD s)), a9, a10, a11, a12, a13, a14, a15, none] = .ok (.ol (unD c.under :: cs.map fun c => unD c.under)) [some (.ol xs), a1, a2, some (.ol (L.map csD)), some (.sh (tiD t)), a5, a6, a7, some (.sh (tiD s)), a9, a10, a11, a12, a13, a14, a15, none] := ec
    have sa : acc.length < sizeLine := by omega
    unfold m_case_b6
    simp?! only [sa, ec, g0]
theorem case_loop {u : Option Ti} {w : List Cs} (hl : L.length ≤ 100) (h : WayS L u w) : ∀ (n : Nat) (acc : List PyData), acc.length + w.length < 10000 → w.length < n →
    sWhile m_case_w5 m_case_b6 n [some (.ol xs), a1, a2, some (.ol (L.map csD)), some (.sh (tiD t)), a5, a6, some (.ol acc), some (.sh (unD u)), a9, a10, a11, a12, a13, a14, a15, none] =
      .ok .nx [some (.ol xs), a1, a2, some (.ol (L.map csD)), some (.sh (tiD t)), a5, a6, some (.ol (acc ++ wayS w)), some (.sh .none), a9, a10, a11, a12, a13, a14, a15, none] := by
  induction h with
  | nil =>
    intro n acc _ hn
    cases n with
    | zero => cases hn
    | succ n =>
      have w1 : m_case_w5 [some (.ol xs), a1, a2, some (.ol (L.map csD)), some (.sh (tiD t)), a5, a6, some (.ol acc), some (.sh .none), a9, a10, a11, a12, a13, a14, a15, none] = .ok false [some (.ol xs), a1, a2, some (.ol (L.map csD)), some (.sh (tiD t)), a5, a6, some (.ol acc), some (.sh .none), a9, a10, a11, a12, a13, a14, a15, none] := by
        unfold m_case_w5
        simp?! only []
      show sWhile _ _ (n + 1) [_, _, _, _, _, _, _, _, some (.sh .none), _, _, _, _, _, _, _, _] = _
      rw [v_wh, w1, show wayS [] = [] from rfl, List.append_nil]
      simp?! only []
  | @cons s c w hf _ ih =>
    intro n acc ha hn
    rw [List.length_cons] at ha hn
    cases n with
    | zero => cases hn
    | succ n =>
      have w1 : m_case_w5 [some (.ol xs), a1, a2, some (.ol (L.map csD)), some (.sh (tiD t)), a5, a6, some (.ol acc), some (.sh (tiD s)), a9, a10, a11, a12, a13, a14, a15, none] = .ok true [some (.ol xs), a1, a2, some (.ol (L.map csD)), some (.sh (tiD t)), a5, a6, some (.ol acc), some (.sh (tiD s)), a9, a10, a11, a12, a13, a14, a15, none] := by
        have gn : gNotN (tiD s) = some (.bool true) := gNotN_un (some s)
        unfold m_case_w5
        simp?! only [gn]
      have e := case_b6 (L := L) (t := t) (xs := xs) (a1 := a1) (a2 := a2) (a5 := a5) (a6 := a6) (a9 := a9) (a10 := a10) (a11 := a11) (a12 := a12) (a13 := a13) (a14 := a14) (a15 := a15) (acc := acc) hl hf (by omega)
      have e2 := ih n (acc ++ [tiD s]) (by rw [List.length_append, List.length_singleton]; omega) (by omega)
      rw [List.append_assoc] at e2
      have ew : acc ++ ([tiD s] ++ wayS w) = acc ++ wayS (c :: w) := by
        show _ = acc ++ (tiD c.tag :: wayS w)
        rw [findS_tag hf]; rfl
      rw [ew] at e2
      show sWhile _ _ (n + 1) [_, _, _, _, _, _, _, _, some (.sh (tiD s)), _, _, _, _, _, _, _, _] = _
      rw [v_wh, w1]
      simp?! only [e, v_whn]
      exact e2
end
end Lw
namespace Lw
open PySem L2 PySem.W PySem.SeqAt Eg
def caseU : M OD := mIf (mAnd ((m2 gNe (mSlot 5) (((mFix lstG (mNil)).bind fz).bind fun d => M.ret (.dat d))).bind asBool) ((m2 gEq (((mCallO fn_draw_2 (mCons (mSlot 0) (mCons ((M.ret (.int 2)).bind fun d => M.ret (.dat d)) (mNil)))).bind fz).bind fun d => M.ret (.dat d)) ((M.ret (.int 0)).bind fun d => M.ret (.dat d))).bind asBool)) ((m2 gIx (mSlot 5) (((mCallO fn_draw_2 (mCons (mSlot 0) (mCons (((mL gLen (mCons (mSlot 5) (mNil))).bind fz).bind fun d => M.ret (.dat d)) (mNil)))).bind fz).bind fun d => M.ret (.dat d))).bind fun d => M.ret (.sh d)) ((M.ret .none).bind fun d => M.ret (.sh d))
def caseR : M Out := sSeq (sPar 7 8 (mFix lstG (mCons ((mName 4).bind fun d => M.ret (.dat d)) (mNil))) ((mName 6).bind fun d => M.ret (.sh d))) (sSeq (sWhile (m_case_w5) (m_case_b6) 5000) (sSeq (sSet 9 (mCallO fn_some (mCons (mSlot 0) (mCons (((mCall fn_folk_2 (mPick [] (mApp (mNil) (mNil)))).bind fz).bind fun d => M.ret (.dat d)) (mCons (((mCallO fn_draw_2 (mCons (mSlot 0) (mCons (((m2 aAdd ((m2 gIx (mSlot 1) ((M.ret (.int 1)).bind fun d => M.ret (.dat d))).bind fun d => M.ret (.dat d)) ((M.ret (.int 1)).bind fun d => M.ret (.dat d))).bind fz).bind fun d => M.ret (.dat d)) (mNil)))).bind fz).bind fun d => M.ret (.dat d)) (mNil)))))) (sSeq (sSet 10 (mCallO fn_some (mCons (mSlot 0) (mCons (((mCall fn_folk_2 (mPick [] (mApp (mNil) (mNil)))).bind fz).bind fun d => M.ret (.dat d)) (mCons (((mCallO fn_draw_2 (mCons (mSlot 0) (mCons ((M.ret (.int 3)).bind fun d => M.ret (.dat d)) (mNil)))).bind fz).bind fun d => M.ret (.dat d)) (mNil)))))) (sSeq (sSet 11 (mCallO fn_slips (mCons (mSlot 0) (mCons ((mName 2).bind fun d => M.ret (.dat d)) (mCons ((mName 7).bind fun d => M.ret (.dat d)) (mNil)))))) (sSeq (sSet 12 (mL gList (mCons (((m2 aAdd (mSlot 9) (mSlot 10)).bind fz).bind fun d => M.ret (.dat d)) (mNil)))) (sSeq (sFor ((mName 11).bind seqItems) (tName 13) (m_case_b7)) (sSeq (sUn ((mCallO fn_votes (mCons (mSlot 0) (mCons ((mName 1).bind fun d => M.ret (.dat d)) (mCons ((mName 9).bind fun d => M.ret (.dat d)) (mNil))))).bind fz) (tTup [tName 14, tName 15])) (sRet ((mFix tupG (mCons ((mName 4).bind fun d => M.ret (.dat d)) (mCons ((mName 6).bind fun d => M.ret (.dat d)) (mCons ((mName 9).bind fun d => M.ret (.dat d)) (mCons (((mL gTuple (mCons (((mSSet (mCons (mSlot 12) (mNil))).bind fz).bind fun d => M.ret (.dat d)) (mNil))).bind fz).bind fun d => M.ret (.dat d)) (mCons ((mName 11).bind fun d => M.ret (.dat d)) (mCons ((mName 14).bind fun d => M.ret (.dat d)) (mCons ((mName 15).bind fun d => M.ret (.dat d)) (mNil))))))))).bind fun d => M.ret (.sh d))))))))))
theorem case37_eq : m_case = sSeq (sSet 5 (mCompO 3 (tName 16) (m_case_t2) (m_case_e1) [16])) (sSeq (sSet 6 caseU) caseR) := rfl
theorem tis_small (l : List Ti) : small (.list (l.map tiD)) = true := decide_eq_true (by
  rw [PyData.depth]
  have := depth_all 1 (ds := l.map tiD) fun d h => by
    obtain ⟨x, _, rfl⟩ := List.mem_map.mp h
    simp [tiD, PyData.depth, PyData.depthAll]
  omega)
section
variable {L : List Cs} {T : List Ti} {t : Ti} {xs : List PyData} {a1 a2 a5 a6 a7 a8 a9 a10 a11 a12 a13 a14 a15 a16 : Option OD}
theorem caseU_ok {n : Nat} {a3 a4 : Option OD} {U : List Ti} (hf : FeedAt xs n) (hn : n < 600000) (hU : U.length ≤ 100) :
    ∃ (u : Option Ti) (xs' : List PyData), (u = none ∨ ∃ s ∈ U, u = some s) ∧ FeedAt xs' (n + 2) ∧ caseU [some (.ol xs), a1, a2, a3, a4, some (.ol (U.map tiD)), a6, a7, a8, a9, a10, a11, a12, a13, a14, a15, a16] = .ok (.sh (unD u)) [some (.ol xs'), a1, a2, a3, a4, some (.ol (U.map tiD)), a6, a7, a8, a9, a10, a11, a12, a13, a14, a15, a16] := by
  have z := sizeLine_eq
  have nn := ne_list_nil (tis_small U)
  have l0 : lstG [] = some (.ol []) := lstG_ok (by decide)
  have glen : gLen [.list (U.map tiD)] = some (.sh (.int (U.length : Int))) := by rw [gLen_any, List.length_map]
  have ei : (U.map tiD).isEmpty = U.isEmpty := by cases U <;> rfl
  rw [ei] at nn
  by_cases q : U = []
  · subst q
    refine ⟨none, xs, .inl rfl, hf.mono (by omega), ?_⟩
    have nn : gNe (.list (List.map tiD [])) (.list []) = some (.bool false) := nn
    unfold caseU
    simp?! only [nn, l0]
    rfl
  · have e0 : U.isEmpty = false := by cases U with | nil => exact absurd rfl q | cons _ _ => rfl
    have ul : 0 < U.length := List.length_pos_iff.mpr q
    rw [e0] at nn
    have nn : gNe (.list (U.map tiD)) (.list []) = some (.bool true) := nn
    obtain ⟨v, xs1, v0, v1, f1, e1⟩ := drawX (many := 2) hf (by omega) (by decide) (by decide)
    by_cases q2 : v = 0
    · subst q2
      obtain ⟨v2, xs2, v20, v21, f2, e2⟩ := drawX (many := (U.length : Int)) f1 (by omega) (by omega) (by omega)
      obtain ⟨d, hd', ei⟩ := gIx_mem (l := U.map tiD) v20 (by rw [List.length_map]; exact v21)
      obtain ⟨s, hs, rfl⟩ := List.mem_map.mp hd'
      refine ⟨some s, xs2, .inr ⟨s, hs, rfl⟩, f2.mono (by omega), ?_⟩
      unfold caseU
      simp?! only [nn, l0, e1, glen, e2, ei]
      rfl
    · refine ⟨none, xs1, .inl rfl, f1.mono (by omega), ?_⟩
      unfold caseU
      simp?! only [nn, l0, e1, q2]
      rfl
theorem slips_loop {l : List Hand} {a0 a3 a4 : Option OD} : ∀ (S : List Sl) (l : List Hand) (a13 : Option OD), (∀ s ∈ S, SlF s) → l.length + 3 * S.length ≤ 100 → (∀ h ∈ l, h ∈ folk37) →
    ∃ (m : List Hand) (b13 : Option OD), (∀ h ∈ m, h ∈ folk37) ∧ m.length ≤ l.length + 3 * S.length ∧ sLoop (tName 13) m_case_b7 (S.map slD) [a0, a1, a2, a3, a4, a5, a6, a7, a8, a9, a10, a11, some (.ol (l.map hd)), a13, a14, a15, a16] = .ok .nx [a0, a1, a2, a3, a4, a5, a6, a7, a8, a9, a10, a11, some (.ol (m.map hd)), b13, a14, a15, a16]
  | [], l, a13, _, _, h => ⟨l, a13, h, by simp, rfl⟩
  | s :: S, l, a13, hS, hl, hm => by
    have z := sizeLine_eq
    have hs := hS s List.mem_cons_self
    have sl := hs.l
    rw [List.length_cons] at hl
    obtain ⟨m, b13, h1, h2, e⟩ := slips_loop (l := l) (a0 := a0) (a3 := a3) (a4 := a4) S (l ++ s.G) (some (.sh (slD s))) (fun d hd' => hS d (List.mem_cons_of_mem _ hd')) (by rw [List.length_append]; omega) fun h hh => by
      rcases List.mem_append.mp hh with q | q
      · exact hm h q
      · exact hs.G h q
    refine ⟨m, b13, h1, by rw [List.length_append] at h2; rw [List.length_cons]; omega, ?_⟩
    have tn : ∀ {a0 a1 a2 a3 a4 a5 a6 a7 a8 a9 a10 a11 a12 a13 a14 a15 a16 : Option OD} {d : PyData}, tName 13 d [a0, a1, a2, a3, a4, a5, a6, a7, a8, a9, a10, a11, a12, a13, a14, a15, a16] = some [a0, a1, a2, a3, a4, a5, a6, a7, a8, a9, a10, a11, a12, some (.sh d), a14, a15, a16] := rfl
    have g1 : gIx (slD s) (.int 1) = some (.tuple (s.G.map hd)) := rfl
    have gl := gList_t (s.G.map hd)
    have sz : (l.map hd).length + (s.G.map hd).length ≤ sizeLine := by rw [List.length_map, List.length_map]; omega
    have eb : m_case_b7 [a0, a1, a2, a3, a4, a5, a6, a7, a8, a9, a10, a11, some (.ol (l.map hd)), some (.sh (slD s)), a14, a15, a16] = .ok .nx [a0, a1, a2, a3, a4, a5, a6, a7, a8, a9, a10, a11, some (.ol ((l ++ s.G).map hd)), some (.sh (slD s)), a14, a15, a16] := by
      rw [List.map_append]
      unfold m_case_b7
      simp?! only [g1, gl, v_ext, v_exto, sz]
    rw [← e, List.map_cons]
    simp?! only [v_lp1, tn, eb, v_lpO, v_lpn]
theorem heads_hd {l : List Hand} (h : ∀ x ∈ l, x ∈ folk37) : ∃ V : List Hand, heads l = V.map hd ∧ (∀ x ∈ V, x ∈ folk37) ∧ V.length ≤ 6 := by
  obtain ⟨V, hV⟩ := map_choose (f := hd) (R := heads l) fun d hd' => by
    obtain ⟨x, _, e⟩ := heads_mem hd'
    exact ⟨x, e⟩
  have mem : ∀ x ∈ V, x ∈ folk37 := fun x hx => by
    have : hd x ∈ heads l := by rw [hV]; exact List.mem_map.mpr ⟨x, hx, rfl⟩
    obtain ⟨y, hy, e⟩ := heads_mem this
    have e2 : x = y := hd_inj2 e
    rw [e2]; exact h y hy
  have nd : V.Nodup := by
    have : (heads l).Nodup := (List.mergeSort_perm _ _).nodup_iff.mpr (Eg.nodup_of_map (once_nodup _))
    rw [hV] at this
    exact Eg.nodup_of_map this
  exact ⟨V, hV, mem, List.Nodup.length_le_of_subset nd mem⟩
def SlOk (c : Cs) : Prop := ∃ S : List Sl, c.p = .tuple (S.map slD) ∧ S.length ≤ 5 ∧ ∀ s ∈ S, SlF s
theorem case37 {n : Nat} {a b w : Int} (hf : FeedAt xs n) (hn : n < 400000) (hT : T.length ≤ 8) (tf : ∀ t ∈ T, Tf t) (hL : Lined [] L) (hF : ∀ c ∈ L, CsF c) (hl : L.length ≤ 12) (p1 : 2 ≤ a) (p2 : a ≤ 5) (p3 : 0 ≤ b) (p4 : b ≤ 10) :
    ∃ (c : Cs) (xs' : List PyData), c.tag = t ∧ CsF c ∧ c.vs.length ≤ 6 ∧ (∀ u, c.under = some u → u ∈ L.map (·.tag)) ∧ SlOk c ∧ FeedAt xs' (n + 80) ∧
      fn_case [some (.ol xs), some (.sh (pactD a b w)), some (.sh (.list (T.map tiD))), some (.ol (L.map csD)), some (.sh (tiD t))] = .ok (.sh (csD c)) [some (.ol xs'), none, none, some (.ol (L.map csD)), none] := by
  have z := sizeLine_eq
  have fl : folk37.length = 6 := rfl
  have e1 := unders37 (L := L) (t := t) (xs := xs) (a1 := some (.sh (pactD a b w))) (a2 := some (.sh (.list (T.map tiD)))) (a5 := none) (a6 := none) (a7 := none) (a8 := none) (a9 := none) (a10 := none) (a11 := none) (a12 := none) (a13 := none) (a14 := none) (a15 := none) hF (by omega)
  have em : (L.filter (under37 t)).map (fun c => tiD c.tag) = ((L.filter (under37 t)).map (·.tag)).map tiD := by rw [List.map_map]; rfl
  rw [em] at e1
  obtain ⟨U, eU⟩ : ∃ U, U = (L.filter (under37 t)).map (·.tag) := ⟨_, rfl⟩
  rw [← eU] at e1
  have ul : U.length ≤ 12 := by
    have := List.length_filter_le (under37 t) L
    rw [eU, List.length_map]; omega
  obtain ⟨u, xs1, hu, f1, e2⟩ := caseU_ok (U := U) (a1 := some (.sh (pactD a b w))) (a2 := some (.sh (.list (T.map tiD)))) (a3 := some (.ol (L.map csD))) (a4 := some (.sh (tiD t))) (a6 := none) (a7 := none) (a8 := none) (a9 := none) (a10 := none) (a11 := none) (a12 := none) (a13 := none) (a14 := none) (a15 := none) (a16 := none) hf (by omega) (by omega)
  have hu2 : ∀ s, u = some s → s ∈ L.map (·.tag) := fun s es => by
    rcases hu with q | ⟨s', hs', q⟩
    · rw [q] at es; cases es
    · rw [q] at es; cases es
      rw [eU] at hs'
      obtain ⟨c, hc, rfl⟩ := List.mem_map.mp hs'
      exact List.mem_map.mpr ⟨c, (List.mem_filter.mp hc).1, rfl⟩
  obtain ⟨wy, hw, wl⟩ : ∃ wy, WayS L u wy ∧ wy.length ≤ 13 := by
    cases u with
    | none => exact ⟨[], .nil, by decide⟩
    | some s =>
      obtain ⟨c, hc, rfl⟩ := List.mem_map.mp (hu2 s rfl)
      obtain ⟨A, B, e⟩ := List.append_of_mem hc
      obtain ⟨wy, w1, w2⟩ := way_of hL (A.length + 1) A B c (Nat.lt_succ_self _) e
      have la : A.length + 1 ≤ L.length := by rw [e, List.length_append, List.length_cons]; omega
      exact ⟨wy, w1, by omega⟩
  have e3 := case_loop (L := L) (t := t) (xs := xs1) (a1 := some (.sh (pactD a b w))) (a2 := some (.sh (.list (T.map tiD)))) (a5 := some (.ol (U.map tiD))) (a6 := some (.sh (unD u))) (a9 := none) (a10 := none) (a11 := none) (a12 := none) (a13 := none) (a14 := none) (a15 := none) (by omega) hw 5000 [tiD t] (by rw [List.length_singleton]; omega) (by omega)
  have ep : [tiD t] ++ wayS wy = (t :: wy.map (·.tag)).map tiD := by
    rw [List.map_cons, List.map_map]; rfl
  obtain ⟨Pa, ePa⟩ : ∃ Pa : List Ti, Pa = t :: wy.map (·.tag) := ⟨_, rfl⟩
  rw [ep, ← ePa] at e3
  obtain ⟨v, xs2, v0, v1, f2, e4⟩ := drawX (many := a + 1) f1 (by omega) (by omega) (by omega)
  obtain ⟨G, xs3, g1, g2, g3, f3, e5⟩ := some37 (F := folk37) (D := .list (folk37.map hd)) (v := v) f2 (by omega) rfl (by decide) v0 (by omega)
  obtain ⟨v2, xs4, v20, v21, f4, e6⟩ := drawX (many := 3) f3 (by omega) (by decide) (by decide)
  obtain ⟨G2, xs5, k1, k2, k3, f5, e7⟩ := some37 (F := folk37) (D := .list (folk37.map hd)) (v := v2) f4 (by omega) rfl (by decide) v20 (by omega)
  obtain ⟨S, xs6, s1, s2, f6, e8⟩ := slips37 (T := T) (P := Pa) f5 (by omega) hT tf
  have gl5 : G.length ≤ 5 := by omega
  have ga : aAdd (.tuple (G.map hd)) (.tuple (G2.map hd)) = some (.sh (.tuple ((G ++ G2).map hd))) := by
    rw [List.map_append]
    exact aAdd_tt (by rw [List.length_map, List.length_map]; omega)
  obtain ⟨m, b13, m1, m2, e9⟩ := slips_loop (a0 := some (.ol xs6)) (a1 := some (.sh (pactD a b w))) (a2 := some (.sh (.list (T.map tiD)))) (a3 := some (.ol (L.map csD))) (a4 := some (.sh (tiD t))) (a5 := some (.ol (U.map tiD))) (a6 := some (.sh (unD u))) (a7 := some (.sh (.list (Pa.map tiD)))) (a8 := some (.sh .none)) (a9 := some (.sh (.tuple (G.map hd)))) (a10 := some (.sh (.tuple (G2.map hd)))) (a11 := some (.sh (.tuple (S.map slD)))) (a14 := none) (a15 := none) (a16 := none) (l := G ++ G2) S (G ++ G2) none s2 (by rw [List.length_append]; omega) fun h hh => by
    rcases List.mem_append.mp hh with q | q
    · exact g1 h q
    · exact k1 h q
  obtain ⟨V, en, xs7, t1, t2', t3', f7, e10⟩ := votes37 (G := G) (a := a) (b := b) (w := w) f6 (by omega) g1 (by omega) p3 p4
  have ml : m.length < 64 := by rw [List.length_append] at m2; omega
  obtain ⟨W, eW, w1, w2⟩ := heads_hd m1
  have gk : gKeys [.list (m.map hd)] = some (m.map hd) := gKeys_hd (l := m) ml
  have go : gOnce (m.map hd) = some (.ol (W.map hd)) := by
    rw [gOnce_hd (l := m) ml]
    exact congrArg (fun x => some (OD.ol x)) eW
  have efo := folkd37
  have l1 : ∀ a : PyData, lstG [a] = some (.ol [a]) := fun _ => if_pos (show 1 ≤ sizeLine by decide)
  have t7 : ∀ a b c d e f g : PyData, tupG [a, b, c, d, e, f, g] = some (.tuple [a, b, c, d, e, f, g]) := fun _ _ _ _ _ _ _ => if_pos (show 7 ≤ sizeLine by decide)
  have q1 : gIx (pactD a b w) (.int 1) = some (.int a) := rfl
  have gL := gList_t ((G ++ G2).map hd)
  have et : ∀ {a0 a1 a2 a3 a4 a5 a6 a7 a8 a9 a10 a11 a12 a13 a14 a15 a16 : Option OD} {x y : PyData}, tTup [tName 14, tName 15] (.tuple [x, y]) [a0, a1, a2, a3, a4, a5, a6, a7, a8, a9, a10, a11, a12, a13, a14, a15, a16] = some [a0, a1, a2, a3, a4, a5, a6, a7, a8, a9, a10, a11, a12, a13, some (.sh x), some (.sh y), a16] := rfl
  refine ⟨⟨t, u, .tuple (G.map hd), W, .tuple (S.map slD), .tuple V, en⟩, xs7, rfl, ⟨?_, ?_, ?_, w1, by show W.length ≤ 20; omega, t3'⟩, w2, hu2, ⟨S, rfl, by omega, s2⟩, f7.mono (by omega), ?_⟩
  · exact (hds37_th g1).mono (by omega) (by omega)
  · have := Ths.all (q := 40) (n := 300) (k := 3) (by decide) (ds := S.map slD) fun d hd' => by
      obtain ⟨s, hs, rfl⟩ := List.mem_map.mp hd'
      exact sl_th (s2 s hs)
    rw [List.length_map] at this
    exact this.tup.mono (by omega) (by omega)
  · have := Ths.all (q := 40) (n := 80) (k := 2) (by decide) (ds := V) t1
    exact this.tup.mono (by omega) (by omega)
  · show fnM 12 [true, false, false, true, false] m_case _ = _
    rw [case37_eq]
    unfold caseR
    simp?! only [e1, e2, l1, e3, efo, q1, e4, e5, e6, e7, e8, ga, gL, e9, e10, et, v_sset, gk, go, gTup_l, t7, v_pick, v_pk0, v_pkl, v_pkr, List.getD_cons_zero]
    rfl
end
end Lw
namespace Lw
open PySem L2 PySem.W PySem.SeqAt Eg
theorem cases_b1 {xs : List PyData} {n : Nat} {a b w : Int} {L : List Cs} {T : List Ti} {t : Ti} (hf : FeedAt xs n) (hn : n < 400000) (hT : T.length ≤ 8) (tf : ∀ t ∈ T, Tf t) (hL : Lined [] L) (hF : ∀ c ∈ L, CsF c) (hl : L.length ≤ 12) (p1 : 2 ≤ a) (p2 : a ≤ 5) (p3 : 0 ≤ b) (p4 : b ≤ 10) :
    ∃ (c : Cs) (xs' : List PyData), c.tag = t ∧ CsF c ∧ c.vs.length ≤ 6 ∧ (∀ u, c.under = some u → u ∈ L.map (·.tag)) ∧ SlOk c ∧ FeedAt xs' (n + 80) ∧
      m_cases_b1 [some (.ol xs), some (.sh (pactD a b w)), some (.sh (.list (T.map tiD))), some (.ol (L.map csD)), some (.sh (tiD t))] = .ok .nx [some (.ol xs'), some (.sh (pactD a b w)), some (.sh (.list (T.map tiD))), some (.ol ((L ++ [c]).map csD)), some (.sh (tiD t))] := by
  have z := sizeLine_eq
  obtain ⟨c, xs', h1, h2, h3, h4, hS, h5, e⟩ := case37 (T := T) (L := L) (t := t) (w := w) hf hn hT tf hL hF hl p1 p2 p3 p4
  have ec : mCallL fn_case (mCons (mSlot 0) (mCons ((mName 1).bind fun d => M.ret (.dat d)) (mCons ((mName 2).bind fun d => M.ret (.dat d)) (mCons (mSlot 3) (mCons ((mName 4).bind fun d => M.ret (.dat d)) (mNil)))))) [some (.ol xs), some (.sh (pactD a b w)), some (.sh (.list (T.map tiD))), some (.ol (L.map csD)), some (.sh (tiD t))] =
      .ok (.sh (csD c)) [some (.ol xs'), some (.sh (pactD a b w)), some (.sh (.list (T.map tiD))), some (.ol (L.map csD)), some (.sh (tiD t))] := by
    show caL fn_case [some (.ol xs), some (.sh (pactD a b w)), some (.sh (.list (T.map tiD))), some (.ol (L.map csD)), some (.sh (tiD t))] [some 0, none, none, some 3, none] (some [.ol xs, .sh (pactD a b w), .sh (.list (T.map tiD)), .ol (L.map csD), .sh (tiD t)]) = _
    unfold caL
    rw [if_pos (show apart [some 0, none, none, some 3, none] = true by decide)]
    show (match fn_case [some (.ol xs), some (.sh (pactD a b w)), some (.sh (.list (T.map tiD))), some (.ol (L.map csD)), some (.sh (tiD t))] with
      | .ok r ρa => Res.ok r (backL [some (.ol xs), some (.sh (pactD a b w)), some (.sh (.list (T.map tiD))), some (.ol (L.map csD)), some (.sh (tiD t))] [some 0, none, none, some 3, none] ρa)
      | .ex x ρa => .ex x (backL [some (.ol xs), some (.sh (pactD a b w)), some (.sh (.list (T.map tiD))), some (.ol (L.map csD)), some (.sh (tiD t))] [some 0, none, none, some 3, none] ρa)
      | .bad => .bad) = _
    rw [e]
    rfl
  have sz : (L.map csD).length < sizeLine := by rw [List.length_map]; omega
  refine ⟨c, xs', h1, h2, h3, h4, hS, h5, ?_⟩
  rw [List.map_append]
  show _ = Res.ok Out.nx [some (.ol xs'), some (.sh (pactD a b w)), some (.sh (.list (T.map tiD))), some (.ol (L.map csD ++ [csD c])), some (.sh (tiD t))]
  unfold m_cases_b1
  simp?! only [ec, sz]
theorem cases37 {xs : List PyData} {n : Nat} {a b w : Int} (hf : FeedAt xs n) (hn : n < 300000) (p1 : 2 ≤ a) (p2 : a ≤ 5) (p3 : 0 ≤ b) (p4 : b ≤ 10) :
    ∃ (L : List Cs) (xs' : List PyData), Good37 L ∧ (∀ c ∈ L, SlOk c) ∧ FeedAt xs' (n + 700) ∧ fn_cases [some (.ol xs), some (.sh (pactD a b w))] = .ok (.sh (casD L)) [some (.ol xs'), none] := by
  have z := sizeLine_eq
  obtain ⟨T, xs1, tl, nd, tf, f1, e1⟩ := titles37 hf (by omega)
  obtain ⟨ρ', e2, xs2, L, b4, rfl, eT, hL, hF, hv, hS, f2⟩ := loop_inv (f := tiD) (t := tName 4) (b := m_cases_b1)
    (fun rest ρ => ∃ (xs : List PyData) (L : List Cs) (b4 : Option OD), ρ = [some (.ol xs), some (.sh (pactD a b w)), some (.sh (.list (T.map tiD))), some (.ol (L.map csD)), b4] ∧ L.map (·.tag) ++ rest = T ∧ Lined [] L ∧ (∀ c ∈ L, CsF c) ∧ (∀ c ∈ L, c.vs.length ≤ 6) ∧ (∀ c ∈ L, SlOk c) ∧ FeedAt xs (n + 18 + 80 * L.length)) (by
      rintro t rest ρ ⟨xs, L, b4, rfl, eT, hL, hF, hv, hS, f⟩
      have ll : L.length + (rest.length + 1) ≤ 8 := by
        have := congrArg List.length eT
        rw [List.length_append, List.length_map, List.length_cons] at this
        omega
      obtain ⟨c, xs', h1, h2, h3, h4, hSc, h5, e⟩ := cases_b1 (T := T) (L := L) (t := t) (w := w) f (by omega) tl tf hL hF (by omega) p1 p2 p3 p4
      have nt : c.tag ∉ L.map (·.tag) := fun hm => by
        rw [h1] at hm
        rw [← eT] at nd
        exact (List.nodup_append.mp nd).2.2 t hm t List.mem_cons_self rfl
      refine ⟨_, _, rfl, .inl e, xs', L ++ [c], _, rfl, by rw [List.map_append, List.map_singleton, h1, List.append_assoc]; exact eT, hL.add nt h4, fun d hd' => ?_, fun d hd' => ?_, fun d hd' => ?_, h5.mono (by rw [List.length_append, List.length_singleton]; omega)⟩
      · rcases List.mem_append.mp hd' with q | q
        · exact hF d q
        · rw [List.mem_singleton.mp q]; exact h2
      · rcases List.mem_append.mp hd' with q | q
        · exact hv d q
        · rw [List.mem_singleton.mp q]; exact h3
      · rcases List.mem_append.mp hd' with q | q
        · exact hS d q
        · rw [List.mem_singleton.mp q]; exact hSc) T [some (.ol xs1), some (.sh (pactD a b w)), some (.sh (.list (T.map tiD))), some (.ol []), none]
    ⟨xs1, [], none, rfl, rfl, .nil, (fun c h => nomatch h), (fun c h => nomatch h), (fun c h => nomatch h), by simpa using f1⟩
  rw [List.append_nil] at eT
  have ll : L.length ≤ 8 := by
    have := congrArg List.length eT
    rw [List.length_map] at this
    omega
  have l0 : lstG [] = some (.ol []) := lstG_ok (by decide)
  refine ⟨L, xs2, ⟨hL, by omega, hF, fun c hc => (tf c.tag (by rw [← eT]; exact List.mem_map.mpr ⟨c, hc, rfl⟩)).tt, ways_ok (k := 6) hL hv (by omega) (by omega)⟩, hS, f2.mono (by omega), ?_⟩
  unfold casD
  unfold fn_cases m_cases
  simp?! only [e1, l0, e2, gTup_l]
end Lw
namespace Lw
open PySem L2 PySem.W PySem.SeqAt Eg
section
variable {caps : List (Nat × PyData)} {nC : Nat} {mb : M OD} {t : Ti} {ρ' : Rho} {d : PyData}
def badD : PyData := .tuple [.str (Str.ofString "matter"), .str (Str.ofString "verdict")]
end
end Lw
namespace Lw
open PySem L2 PySem.W PySem.SeqAt Eg
section
variable {L : List Cs} {t : Ti} {c : Cs} {w : List Cs}
theorem Good37.uth (h : Good37 L) (hc : c ∈ L) : Th 40 60 1 (unD c.under) := by
  cases u : c.under with
  | none => exact (Th.none (m := 40) (by decide)).mono (by omega) (by omega)
  | some s =>
    obtain ⟨A, B, e⟩ := List.append_of_mem hc
    have := (h.lin.under A c B e).2 s u
    rw [List.nil_append] at this
    obtain ⟨c1, h1, rfl⟩ := List.mem_map.mp this
    exact (h.t c1 (by rw [e]; exact List.mem_append.mpr (.inl h1))).th
theorem cs_th (h : Good37 L) (hc : c ∈ L) : Th 40 3500 5 (csD c) := by
  have hf := h.f c hc
  have a : Th 40 60 4 (tiD c.tag) := (h.t c hc).th.mono (by omega) (by omega)
  have b : Th 40 60 4 (unD c.under) := (h.uth hc).mono (by omega) (by omega)
  have s : Th 40 400 4 c.s := hf.s.mono (by omega) (by omega)
  have d : Th 40 843 4 (.tuple (c.vs.map hd)) := (hds37_th hf.vs).mono (by have := hf.vl; omega) (by omega)
  have p : Th 40 1500 4 c.p := hf.p
  have v : Th 40 500 4 c.v := hf.v.mono (by omega) (by omega)
  have e : Th 40 20 4 c.en := (Th.ofB (ends37_th _ hf.en) (show 40 ≤ 400 by decide)).mono (by omega) (by omega)
  exact (Ths.cons a (Ths.cons b (Ths.cons s (Ths.cons d (Ths.cons p (Ths.cons v (Ths.cons e (Ths.nil (n := 0) (by decide))))))))).tup.mono (by omega) (by omega)
theorem cas_th (h : Good37 L) : Th 40 50000 6 (casD L) := by
  have := Ths.all (q := 40) (n := 3500) (k := 5) (by decide) (ds := L.map csD) fun d hd' => by
    obtain ⟨c, hc, rfl⟩ := List.mem_map.mp hd'
    exact cs_th h hc
  rw [List.length_map] at this
  have := h.len
  exact (this_th this ‹_›)
where this_th (h13 : L.length ≤ 13) (h : Ths 40 (L.length * (3500 + 2)) 5 (L.map csD)) : Th 40 50000 6 (casD L) := h.tup.mono (by omega) (by omega)
def d1 (L : List Cs) (c : Cs) (w : List Cs) : PyData := if isV c.en = true then .tuple [.str (Str.ofString "told"), noteD L c.tag w] else badD
def d2 (L : List Cs) (t : Ti) : PyData := .tuple [.str (Str.ofString "told"), .tuple (apps L t)]
def d3 (L : List Cs) (t : Ti) : PyData := .tuple [.str (Str.ofString "told"), wdD (stD L t)]
variable {a0 a1 a2 a4 a6 a7 a8 : Option OD} {D1 D2 D3 : PyData}
end
end Lw
namespace Lw
open PySem L2 PySem.W PySem.SeqAt Eg
section
variable {L : List Cs} {t : Ti} {c : Cs} {w : List Cs}
variable {a0 a1 a2 a4 a6 a7 a8 : Option OD}
end
end Lw
namespace Lw
open PySem L2 PySem.W PySem.SeqAt Eg
section
variable {L : List Cs} {a0 a1 a2 a3 a4 a5 a6 a7 : Option OD}
end
end Lw
namespace Lw
open PySem L2 PySem.W PySem.SeqAt Eg
def unTi : PyData → Option Ti
  | .tuple [.str a, .int b, .int c] => some (a, b, c)
  | _ => none
def unHd : PyData → Option Hand
  | .tuple [.str a, .str b] => some (a, b)
  | _ => none
def unSl : PyData → Option Sl
  | .tuple [t, .tuple g, w] => match unTi t with
    | some t => some ⟨t, g.filterMap unHd, w⟩
    | none => none
  | _ => none
def sl (c : Cs) : List Sl := match c.p with
  | .tuple ds => ds.filterMap unSl
  | _ => []
theorem unHd_map : ∀ G : List Hand, (G.map hd).filterMap unHd = G
  | [] => rfl
  | x :: G => by
    rw [List.map_cons, List.filterMap_cons]
    have e : unHd (hd x) = some x := rfl
    rw [e]
    show x :: _ = _
    rw [unHd_map G]
theorem unSl_sl (s : Sl) : unSl (slD s) = some s := by
  show some (⟨s.t, (s.G.map hd).filterMap unHd, s.w⟩ : Sl) = some s
  rw [unHd_map]
theorem unSl_map : ∀ S : List Sl, (S.map slD).filterMap unSl = S
  | [] => rfl
  | s :: S => by
    rw [List.map_cons, List.filterMap_cons, unSl_sl]
    show s :: _ = _
    rw [unSl_map S]
theorem sl_of {c : Cs} (h : SlOk c) : c.p = .tuple ((sl c).map slD) ∧ (sl c).length ≤ 5 ∧ ∀ s ∈ sl c, SlF s := by
  obtain ⟨S, e, l, f⟩ := h
  have : sl c = S := by
    unfold sl
    rw [e]
    exact unSl_map S
  rw [this]
  exact ⟨e, l, f⟩
def hears (c : Cs) (t : Ti) : Bool := decide (t ∈ (sl c).map (·.t))
def readers (L : List Cs) (t : Ti) : List Ti := (L.filter fun c => hears c t).map (·.tag)
inductive Rests (L : List Cs) (S : List Ti) : Ti → Prop
  | one {c : Cs} {t : Ti} : c ∈ L → hears c t = true → t ∈ S → Rests L S c.tag
  | more {c : Cs} {t : Ti} : c ∈ L → hears c t = true → Rests L S t → Rests L S c.tag
def Shut (L : List Cs) (S R : List Ti) : Prop := ∀ c ∈ L, ∀ t, hears c t = true → t ∈ S ∨ t ∈ R → c.tag ∈ R
theorem Shut.all {L : List Cs} {S R : List Ti} (h : Shut L S R) {t : Ti} (r : Rests L S t) : t ∈ R := by
  induction r with
  | one hc ht hs => exact h _ hc _ ht (.inl hs)
  | more hc ht _ ih => exact h _ hc _ ht (.inr ih)
section
variable {L : List Cs} {t : Ti}
theorem gIn_tis (l : List Ti) (x : Ti) : gIn (tiD x) (.list (l.map tiD)) = some (.bool (decide (x ∈ l))) := by
  have e : ((l.map tiD).any fun y => PyData.eqv y (tiD x)) = decide (x ∈ l) := by
    rw [List.any_map, Bool.eq_iff_iff, List.any_eq_true, decide_eq_true_iff]
    constructor
    · rintro ⟨y, hy, q⟩
      have q : PyData.eqv (tiD y) (tiD x) = true := q
      rw [ti_eqv] at q
      rw [← of_decide_eq_true q]; exact hy
    · exact fun h => ⟨x, h, by show PyData.eqv (tiD x) (tiD x) = true; rw [ti_eqv]; exact decide_eq_true rfl⟩
  rw [← e]
  show (if small (tiD x) = true then some (PyData.bool ((l.map tiD).any fun y => PyData.eqv y (tiD x))) else none) = _
  rw [if_pos (ti_small x)]
theorem gIx_cs4 {c : Cs} (h : SlOk c) : gIx (csD c) (.int 4) = some (.tuple ((sl c).map slD)) := by
  rw [← (sl_of h).1]; rfl
theorem gIx_sl0 (s : Sl) : gIx (slD s) (.int 0) = some (tiD s.t) := rfl
theorem gIx_sl2 (s : Sl) : gIx (slD s) (.int 2) = some s.w := rfl
theorem readers41 (hS : ∀ c ∈ L, SlOk c) (hl : L.length ≤ 100) : fn_readers_of [some (.sh (casD L)), some (.sh (tiD t))] = .ok (.ol ((readers L t).map tiD)) [none, none] := by
  have z := sizeLine_eq
  have em : (readers L t).map tiD = (L.filter fun c => hears c t).map fun c => tiD c.tag := by unfold readers; rw [List.map_map]; rfl
  rw [em]
  have ec : mComp ((mName 0).bind seqItems) (tName 2) m_readers_of_t3 m_readers_of_e2 [2] [some (.sh (casD L)), some (.sh (tiD t)), none, none] =
      .ok (.ol ((L.filter fun c => hears c t).map fun c => tiD c.tag)) [some (.sh (casD L)), some (.sh (tiD t)), none, none] := by
    refine comp_filt (f := csD) (fun c => hears c t) (fun c => tiD c.tag) (by unfold casD; simp?! only []) (by omega) fun c hc => ⟨[some (.sh (casD L)), some (.sh (tiD t)), some (.sh (csD c)), none], [some (.sh (casD L)), some (.sh (tiD t)), some (.sh (csD c)), none], rfl, ?_, rfl, fun _ => ⟨[some (.sh (casD L)), some (.sh (tiD t)), some (.sh (csD c)), none], ?_, rfl⟩⟩
    · have g4 := gIx_cs4 (hS c hc)
      have l5 := (sl_of (hS c hc)).2.1
      have e2 : mComp ((m2 gIx (mSlot 2) ((M.ret (.int 4)).bind fun d => M.ret (.dat d))).bind seqItems) (tName 3) (M.ret true) m_readers_of_e1 [3] [some (.sh (casD L)), some (.sh (tiD t)), some (.sh (csD c)), none] =
          .ok (.ol ((sl c).map fun s => tiD s.t)) [some (.sh (casD L)), some (.sh (tiD t)), some (.sh (csD c)), none] := by
        refine comp_pure (f := slD) (fun s => tiD s.t) (by simp?! only [g4]) (by omega) fun s _ => ⟨[some (.sh (casD L)), some (.sh (tiD t)), some (.sh (csD c)), some (.sh (slD s))], [some (.sh (casD L)), some (.sh (tiD t)), some (.sh (csD c)), some (.sh (slD s))], rfl, ?_, rfl⟩
        have g0 := gIx_sl0 s
        unfold m_readers_of_e1
        simp?! only [g0]
      have gi := gIn_tis ((sl c).map (·.t)) t
      rw [List.map_map] at gi
      have gi : gIn (tiD t) (.list ((sl c).map fun s => tiD s.t)) = some (.bool (hears c t)) := gi
      unfold m_readers_of_t3
      simp?! only [e2, gi]
    · have g0 := gIx_cs0 c
      unfold m_readers_of_e2
      simp?! only [g0]
  unfold fn_readers_of m_readers_of
  simp?! only [ec]
end
end Lw
namespace Eg
open PySem L2 PySem.W PySem.SeqAt
theorem v_popr {ρ : Rho} {i : Nat} {xs : List PyData} {y : PyData} (h : ρ[i]? = some (some (.ol (xs ++ [y])))) : mPop i ρ = .ok y (ρ.set i (some (.ol xs))) := by
  unfold mPop
  simp only [h]
  rw [show (xs ++ [y])[(xs ++ [y]).length - 1]? = some y by simp, List.dropLast_concat]
end Eg
namespace Lw
open PySem L2 PySem.W PySem.SeqAt Eg
theorem tags_nd {P : List Ti} : ∀ {S : List Cs}, Lined P S → (S.map (·.tag)).Nodup
  | [], _ => .nil
  | c :: S, h => by
    cases h with
    | @cons _ _ _ h1 h2 h3 =>
      rw [List.map_cons, List.nodup_cons]
      refine ⟨fun hm => ?_, tags_nd h3⟩
      obtain ⟨d, hd, e⟩ := List.mem_map.mp hm
      exact h3.tag d hd (List.mem_append.mpr (.inr (by rw [e]; exact List.mem_singleton.mpr rfl)))
theorem mem_readers {L : List Cs} {t x : Ti} : x ∈ readers L t ↔ ∃ c ∈ L, hears c t = true ∧ c.tag = x := by
  unfold readers
  constructor
  · intro h
    obtain ⟨c, hc, e⟩ := List.mem_map.mp h
    exact ⟨c, (List.mem_filter.mp hc).1, (List.mem_filter.mp hc).2, e⟩
  · rintro ⟨c, h1, h2, h3⟩
    exact List.mem_map.mpr ⟨c, List.mem_filter.mpr ⟨h1, h2⟩, h3⟩
theorem readers_nd {L : List Cs} {t : Ti} (h : (L.map (·.tag)).Nodup) : (readers L t).Nodup :=
  h.sublist (List.Sublist.map _ List.filter_sublist)
structure RInv (L : List Cs) (S R Q : List Ti) : Prop where
  nd : R.Nodup
  r : ∀ x ∈ R, Rests L S x
  q : ∀ x ∈ Q, x ∈ S ∨ x ∈ R
  c : ∀ c ∈ L, ∀ t, hears c t = true → t ∈ S ∨ t ∈ R → c.tag ∈ R ∨ t ∈ Q
  s : ∀ x ∈ R, x ∈ L.map (·.tag)
section
variable {L : List Cs} {S : List Ti}
theorem RInv.step {R Q : List Ti} {t : Ti} (ht : (L.map (·.tag)).Nodup) (h : RInv L S R (Q ++ [t])) : RInv L S (R ++ (readers L t).filter fun x => !decide (x ∈ R)) (Q ++ (readers L t).filter fun x => !decide (x ∈ R)) := by
  have mm : ∀ x, x ∈ (readers L t).filter (fun x => !decide (x ∈ R)) ↔ (∃ c ∈ L, hears c t = true ∧ c.tag = x) ∧ x ∉ R := fun x => by
    rw [List.mem_filter, mem_readers]; simp
  refine ⟨?_, fun x hx => ?_, fun x hx => ?_, fun c hc s hs hm => ?_, fun x hx => ?_⟩
  · refine List.nodup_append.mpr ⟨h.nd, (readers_nd ht).sublist List.filter_sublist, fun a ha b hb e => ?_⟩
    subst e
    exact ((mm a).mp hb).2 ha
  · rcases List.mem_append.mp hx with q | q
    · exact h.r x q
    · obtain ⟨⟨c, h1, h2, rfl⟩, _⟩ := (mm x).mp q
      rcases h.q t (List.mem_append.mpr (.inr (List.mem_singleton.mpr rfl))) with z | z
      · exact .one h1 h2 z
      · exact .more h1 h2 (h.r t z)
  · rcases List.mem_append.mp hx with q | q
    · rcases h.q x (List.mem_append.mpr (.inl q)) with z | z
      · exact .inl z
      · exact .inr (List.mem_append.mpr (.inl z))
    · exact .inr (List.mem_append.mpr (.inr q))
  · -- a reader of s
    have inR : ∀ {x}, x ∈ R → x ∈ R ++ (readers L t).filter fun x => !decide (x ∈ R) := fun q => List.mem_append.mpr (.inl q)
    by_cases es : s = t
    · subst es
      by_cases q : c.tag ∈ R
      · exact .inl (inR q)
      · exact .inl (List.mem_append.mpr (.inr ((mm c.tag).mpr ⟨⟨c, hc, hs, rfl⟩, q⟩)))
    · have old : s ∈ S ∨ s ∈ R → c.tag ∈ R ++ (readers L t).filter (fun x => !decide (x ∈ R)) ∨ s ∈ Q ++ (readers L t).filter (fun x => !decide (x ∈ R)) := fun z => by
        rcases h.c c hc s hs z with q | q
        · exact .inl (inR q)
        · rcases List.mem_append.mp q with q | q
          · exact .inr (List.mem_append.mpr (.inl q))
          · exact absurd (List.mem_singleton.mp q) es
      rcases hm with z | z
      · exact old (.inl z)
      · rcases List.mem_append.mp z with z | z
        · exact old (.inr z)
        · exact .inr (List.mem_append.mpr (.inr z))
  · rcases List.mem_append.mp hx with q | q
    · exact h.s x q
    · obtain ⟨⟨c, h1, _, rfl⟩, _⟩ := (mm x).mp q
      exact List.mem_map.mpr ⟨c, h1, rfl⟩
theorem RInv.len {R Q : List Ti} (h : RInv L S R Q) : R.length ≤ L.length := by
  have := List.Nodup.length_le_of_subset h.nd h.s
  rw [List.length_map] at this
  exact this
theorem rest_b4 {R Q : List Ti} {t : Ti} {a4 a5 : Option OD} (hS : ∀ c ∈ L, SlOk c) (hl : L.length ≤ 100) (rl : R.length ≤ 200) (ql : Q.length ≤ 1000) :
    m_all_resting_b4 [some (.sh (casD L)), some (.sh (.list (S.map tiD))), some (.ol (R.map tiD)), some (.ol ((Q ++ [t]).map tiD)), a4, a5, none] =
      .ok .nx [some (.sh (casD L)), some (.sh (.list (S.map tiD))), some (.ol ((R ++ (readers L t).filter fun x => !decide (x ∈ R)).map tiD)), some (.ol ((Q ++ (readers L t).filter fun x => !decide (x ∈ R)).map tiD)), some (.sh (tiD t)), some (.sh (.list (((readers L t).filter fun x => !decide (x ∈ R)).map tiD))), none] := by
  have z := sizeLine_eq
  have er := readers41 (t := t) hS hl
  have lr : (readers L t).length ≤ 100 := by
    unfold readers
    rw [List.length_map]
    have := List.length_filter_le (fun c => hears c t) L
    omega
  have lf := List.length_filter_le (fun x => !decide (x ∈ R)) (readers L t)
  have ep : mPop 3 [some (.sh (casD L)), some (.sh (.list (S.map tiD))), some (.ol (R.map tiD)), some (.ol (Q.map tiD ++ [tiD t])), a4, a5, none] = .ok (tiD t) [some (.sh (casD L)), some (.sh (.list (S.map tiD))), some (.ol (R.map tiD)), some (.ol (Q.map tiD)), a4, a5, none] := v_popr rfl
  have ec : ∀ {a3 a4 a5 : Option OD}, mComp ((M.ret (PyData.list ((readers L t).map tiD))).bind seqItems) (tName 6) m_all_resting_t2 m_all_resting_e1 [6] [some (.sh (casD L)), some (.sh (.list (S.map tiD))), some (.ol (R.map tiD)), a3, a4, a5, none] =
      .ok (.ol (((readers L t).filter fun x => !decide (x ∈ R)).map tiD)) [some (.sh (casD L)), some (.sh (.list (S.map tiD))), some (.ol (R.map tiD)), a3, a4, a5, none] := fun {a3 a4 a5} => by
    refine comp_filt (f := tiD) (fun x => !decide (x ∈ R)) tiD (by simp?! only []) (by omega) fun x _ => ⟨[some (.sh (casD L)), some (.sh (.list (S.map tiD))), some (.ol (R.map tiD)), a3, a4, a5, some (.sh (tiD x))], [some (.sh (casD L)), some (.sh (.list (S.map tiD))), some (.ol (R.map tiD)), a3, a4, a5, some (.sh (tiD x))], rfl, ?_, rfl, fun _ => ⟨_, rfl, rfl⟩⟩
    have gn := gNotIn_ti R x
    unfold m_all_resting_t2
    simp?! only [gn]
  have ec2 : ∀ {a3 a5 : Option OD}, mComp (((mCall fn_readers_of (mCons ((mName 0).bind fun d => M.ret (.dat d)) (mCons ((mName 4).bind fun d => M.ret (.dat d)) (mNil)))).bind fz).bind seqItems) (tName 6) m_all_resting_t2 m_all_resting_e1 [6] [some (.sh (casD L)), some (.sh (.list (S.map tiD))), some (.ol (R.map tiD)), a3, some (.sh (tiD t)), a5, none] =
      .ok (.ol (((readers L t).filter fun x => !decide (x ∈ R)).map tiD)) [some (.sh (casD L)), some (.sh (.list (S.map tiD))), some (.ol (R.map tiD)), a3, some (.sh (tiD t)), a5, none] := fun {a3 a5} => by
    rw [← ec, v_comp, v_comp]
    simp?! only [er]
  have s1 : (R.map tiD).length + (((readers L t).filter fun x => !decide (x ∈ R)).map tiD).length ≤ sizeLine := by rw [List.length_map, List.length_map]; omega
  have s2 : (Q.map tiD).length + (((readers L t).filter fun x => !decide (x ∈ R)).map tiD).length ≤ sizeLine := by rw [List.length_map, List.length_map]; omega
  rw [List.map_append, List.map_append, List.map_append]
  show m_all_resting_b4 [some (.sh (casD L)), some (.sh (.list (S.map tiD))), some (.ol (R.map tiD)), some (.ol (Q.map tiD ++ [tiD t])), a4, a5, none] = _
  unfold m_all_resting_b4
  simp?! only [ep, ec2, v_ext, v_exto, s1, s2]
theorem rest_loop (hS : ∀ c ∈ L, SlOk c) (nd : (L.map (·.tag)).Nodup) (hl : L.length ≤ 100) : ∀ (n : Nat) (R Q : List Ti) (a4 a5 : Option OD), RInv L S R Q → 2 * (L.length - R.length) + Q.length < n → 2 * (L.length - R.length) + Q.length ≤ 900 →
    ∃ (R' : List Ti) (b4 b5 : Option OD), RInv L S R' [] ∧ sWhile m_all_resting_w3 m_all_resting_b4 n [some (.sh (casD L)), some (.sh (.list (S.map tiD))), some (.ol (R.map tiD)), some (.ol (Q.map tiD)), a4, a5, none] =
      .ok .nx [some (.sh (casD L)), some (.sh (.list (S.map tiD))), some (.ol (R'.map tiD)), some (.ol []), b4, b5, none]
  | 0, _, _, _, _, _, h, _ => by omega
  | n + 1, R, Q, a4, a5, I, hm, hn => by
    have rl := I.len
    rcases List.eq_nil_or_concat Q with rfl | ⟨Q', t, rfl⟩
    · refine ⟨R, a4, a5, I, ?_⟩
      have w : m_all_resting_w3 [some (.sh (casD L)), some (.sh (.list (S.map tiD))), some (.ol (R.map tiD)), some (.ol []), a4, a5, none] = .ok false [some (.sh (casD L)), some (.sh (.list (S.map tiD))), some (.ol (R.map tiD)), some (.ol []), a4, a5, none] := v_olT (i := 3) (xs := []) rfl
      show sWhile _ _ (n + 1) [_, _, _, some (.ol []), _, _, _] = _
      rw [v_wh, w]
      simp?! only []
    · rw [List.concat_eq_append] at I hm hn ⊢
      have I' := I.step nd
      have rl' := I'.len
      rw [List.length_append, List.length_singleton] at hm hn
      rw [List.length_append] at rl'
      obtain ⟨R', b4, b5, I2, e⟩ := rest_loop hS nd hl n _ _ (some (.sh (tiD t))) (some (.sh (.list (((readers L t).filter fun x => !decide (x ∈ R)).map tiD)))) I' (by rw [List.length_append, List.length_append]; omega) (by rw [List.length_append, List.length_append]; omega)
      refine ⟨R', b4, b5, I2, ?_⟩
      have eb := rest_b4 (L := L) (S := S) (R := R) (Q := Q') (t := t) (a4 := a4) (a5 := a5) hS hl (by omega) (by omega)
      have w : m_all_resting_w3 [some (.sh (casD L)), some (.sh (.list (S.map tiD))), some (.ol (R.map tiD)), some (.ol ((Q' ++ [t]).map tiD)), a4, a5, none] = .ok true [some (.sh (casD L)), some (.sh (.list (S.map tiD))), some (.ol (R.map tiD)), some (.ol ((Q' ++ [t]).map tiD)), a4, a5, none] := by
        have : m_all_resting_w3 [some (.sh (casD L)), some (.sh (.list (S.map tiD))), some (.ol (R.map tiD)), some (.ol ((Q' ++ [t]).map tiD)), a4, a5, none] = .ok (!((Q' ++ [t]).map tiD).isEmpty) [some (.sh (casD L)), some (.sh (.list (S.map tiD))), some (.ol (R.map tiD)), some (.ol ((Q' ++ [t]).map tiD)), a4, a5, none] := v_olT rfl
        rw [this]
        have : ((Q' ++ [t]).map tiD).isEmpty = false := by rw [List.map_append]; cases Q'.map tiD <;> rfl
        rw [this]
        rfl
      rw [← e, v_wh, w]
      simp?! only [eb, v_whn]
end
end Lw
namespace Lw
open PySem L2 PySem.W PySem.SeqAt Eg
section
variable {L : List Cs} {S : List Ti}
theorem resting41 (hS : ∀ c ∈ L, SlOk c) (nd : (L.map (·.tag)).Nodup) (hl : L.length ≤ 100) (sl' : S.length ≤ 100) : ∃ R : List Ti, RInv L S R [] ∧ fn_all_resting [some (.sh (casD L)), some (.sh (.list (S.map tiD)))] = .ok (.ol (R.map tiD)) [none, none] := by
  have I0 : RInv L S [] S := ⟨.nil, (fun x h => nomatch h), fun x h => .inl h, fun c _ t _ h => h.elim .inr (fun h => nomatch h), (fun x h => nomatch h)⟩
  obtain ⟨R, b4, b5, I, e⟩ := rest_loop hS nd hl 5000 [] S none none I0 (by rw [List.length_nil]; omega) (by rw [List.length_nil]; omega)
  have e : sWhile m_all_resting_w3 m_all_resting_b4 5000 [some (.sh (casD L)), some (.sh (.list (S.map tiD))), some (.ol []), some (.ol (S.map tiD)), none, none, none] = _ := e
  have l0 : lstG [] = some (.ol []) := lstG_ok (by decide)
  have gL : gList [.list (S.map tiD)] = some (.ol (S.map tiD)) := rfl
  refine ⟨R, I, ?_⟩
  unfold fn_all_resting m_all_resting
  simp?! only [l0, gL, e]
def hitB (S F : List Ti) (c : Cs) : Bool := (sl c).any fun s => decide (s.t ∈ S ++ F)
def fresh (S F : List Ti) (L : List Cs) : List Ti := (L.filter fun c => hitB S F c && !decide (c.tag ∈ F)).map (·.tag)
theorem hitB_iff {F : List Ti} {c : Cs} : hitB S F c = true ↔ ∃ t, hears c t = true ∧ (t ∈ S ∨ t ∈ F) := by
  unfold hitB hears
  rw [List.any_eq_true]
  constructor
  · rintro ⟨s, hs, h⟩
    exact ⟨s.t, decide_eq_true (List.mem_map.mpr ⟨s, hs, rfl⟩), List.mem_append.mp (of_decide_eq_true h)⟩
  · rintro ⟨t, h1, h2⟩
    obtain ⟨s, hs, rfl⟩ := List.mem_map.mp (of_decide_eq_true h1)
    exact ⟨s, hs, decide_eq_true (List.mem_append.mpr h2)⟩
theorem sls_small {c : Cs} (h : SlOk c) (f : Sl → Bool) : small (.list (((sl c).filter f).map slD)) = true := decide_eq_true (by
  rw [PyData.depth]
  have := depth_all 3 (ds := ((sl c).filter f).map slD) fun d hd => by
    obtain ⟨s, hs, rfl⟩ := List.mem_map.mp hd
    exact (sl_th ((sl_of h).2.2 s (List.mem_filter.mp hs).1)).k
  omega)
theorem rests_b3 {F W : List Ti} {c : Cs} {a5 : Option OD} (hS : SlOk c) (s1 : S.length ≤ 100) (f1 : F.length ≤ 100) (m1 : W.length ≤ 100) :
    ∃ b5, m_rests_b3 [some (.sh (casD L)), some (.sh (.list (S.map tiD))), some (.ol (F.map tiD)), some (.ol (W.map tiD)), some (.sh (csD c)), a5, none] =
      .ok .nx [some (.sh (casD L)), some (.sh (.list (S.map tiD))), some (.ol (F.map tiD)), some (.ol ((W ++ fresh S F [c]).map tiD)), some (.sh (csD c)), b5, none] := by
  have z := sizeLine_eq
  have g4 := gIx_cs4 hS
  have g0 := gIx_cs0 c
  have l5 := (sl_of hS).2.1
  have ad : aAdd (.list (S.map tiD)) (.list (F.map tiD)) = some (.ol ((S ++ F).map tiD)) := by
    rw [List.map_append]
    exact aAdd_ll (by rw [List.length_map, List.length_map]; omega)
  have ec : mComp ((m2 gIx (mSlot 4) ((M.ret (.int 4)).bind fun d => M.ret (.dat d))).bind seqItems) (tName 6) m_rests_t2 m_rests_e1 [6] [some (.sh (casD L)), some (.sh (.list (S.map tiD))), some (.ol (F.map tiD)), some (.ol (W.map tiD)), some (.sh (csD c)), a5, none] =
      .ok (.ol (((sl c).filter fun s => decide (s.t ∈ S ++ F)).map slD)) [some (.sh (casD L)), some (.sh (.list (S.map tiD))), some (.ol (F.map tiD)), some (.ol (W.map tiD)), some (.sh (csD c)), a5, none] := by
    refine comp_filt (f := slD) (fun s => decide (s.t ∈ S ++ F)) slD (by simp?! only [g4]) (by omega) fun s _ => ⟨[some (.sh (casD L)), some (.sh (.list (S.map tiD))), some (.ol (F.map tiD)), some (.ol (W.map tiD)), some (.sh (csD c)), a5, some (.sh (slD s))], [some (.sh (casD L)), some (.sh (.list (S.map tiD))), some (.ol (F.map tiD)), some (.ol (W.map tiD)), some (.sh (csD c)), a5, some (.sh (slD s))], rfl, ?_, rfl, fun _ => ⟨_, rfl, rfl⟩⟩
    have gs := gIx_sl0 s
    have gi := gIn_tis (S ++ F) s.t
    unfold m_rests_t2
    simp?! only [gs, ad, gi]
  have nn := ne_list_nil (sls_small hS fun s => decide (s.t ∈ S ++ F))
  have eh : (!(((sl c).filter fun s => decide (s.t ∈ S ++ F)).map slD).isEmpty) = hitB S F c := by
    unfold hitB
    rw [Bool.eq_iff_iff, Bool.not_eq_true', List.any_eq_true]
    constructor
    · intro h
      cases q : (sl c).filter fun s => decide (s.t ∈ S ++ F) with
      | nil => rw [q] at h; cases h
      | cons s r =>
        have : s ∈ (sl c).filter fun s => decide (s.t ∈ S ++ F) := by rw [q]; exact List.mem_cons_self
        exact ⟨s, (List.mem_filter.mp this).1, (List.mem_filter.mp this).2⟩
    · rintro ⟨s, h1, h2⟩
      have : s ∈ (sl c).filter fun s => decide (s.t ∈ S ++ F) := List.mem_filter.mpr ⟨h1, h2⟩
      cases q : (sl c).filter fun s => decide (s.t ∈ S ++ F) with
      | nil => rw [q] at this; cases this
      | cons s r => rfl
  rw [eh] at nn
  have l0 : lstG [] = some (.ol []) := lstG_ok (by decide)
  have gn := gNotIn_ti F c.tag
  have sz : (W.map tiD).length < sizeLine := by rw [List.length_map]; omega
  refine ⟨some (.ol (((sl c).filter fun s => decide (s.t ∈ S ++ F)).map slD)), ?_⟩
  cases h1 : hitB S F c with
  | false =>
    rw [h1] at nn
    have ef : fresh S F [c] = [] := by unfold fresh; rw [List.filter_cons, h1]; rfl
    rw [ef, List.append_nil]
    unfold m_rests_b3
    simp?! only [ec, l0, nn]
  | true =>
    rw [h1] at nn
    by_cases h2 : c.tag ∈ F
    · rw [decide_eq_true h2] at gn
      have ef : fresh S F [c] = [] := by unfold fresh; rw [List.filter_cons, h1, decide_eq_true h2]; rfl
      rw [ef, List.append_nil]
      unfold m_rests_b3
      simp?! only [ec, l0, nn, g0, gn]
    · rw [decide_eq_false h2] at gn
      have ef : fresh S F [c] = [c.tag] := by unfold fresh; rw [List.filter_cons, h1, decide_eq_false h2]; rfl
      rw [ef, List.map_append]
      show _ = Res.ok Out.nx [some (.sh (casD L)), some (.sh (.list (S.map tiD))), some (.ol (F.map tiD)), some (.ol (W.map tiD ++ [tiD c.tag])), some (.sh (csD c)), _, none]
      unfold m_rests_b3
      simp?! only [ec, l0, nn, g0, gn, sz]
theorem fresh_app {F : List Ti} (A B : List Cs) : fresh S F (A ++ B) = fresh S F A ++ fresh S F B := by
  unfold fresh
  rw [List.filter_append, List.map_append]
theorem fresh_len {F : List Ti} (A : List Cs) : (fresh S F A).length ≤ A.length := by
  unfold fresh
  rw [List.length_map]
  exact List.length_filter_le _ _
theorem rests_round {F : List Ti} {D : List PyData} {a4 a5 : Option OD} (hS : ∀ c ∈ L, SlOk c) (hl : L.length ≤ 50) (s1 : S.length ≤ 100) (f1 : F.length ≤ 50) :
    ∃ b4 b5, m_rests_b5 [some (.sh (casD L)), some (.sh (.list (S.map tiD))), some (.ol (F.map tiD)), some (.ol D), a4, a5, none] =
      .ok .nx [some (.sh (casD L)), some (.sh (.list (S.map tiD))), some (.ol ((F ++ fresh S F L).map tiD)), some (.ol ((fresh S F L).map tiD)), b4, b5, none] := by
  have z := sizeLine_eq
  obtain ⟨ρ', e, P, b4, b5, eP, rfl⟩ := loop_inv (f := csD) (t := tName 4) (b := m_rests_b3)
    (fun rest ρ => ∃ (P : List Cs) (b4 b5 : Option OD), L = P ++ rest ∧ ρ = [some (.sh (casD L)), some (.sh (.list (S.map tiD))), some (.ol (F.map tiD)), some (.ol ((fresh S F P).map tiD)), b4, b5, none]) (by
      rintro c rest ρ ⟨P, b4, b5, eP, rfl⟩
      have cm : c ∈ L := by rw [eP]; exact List.mem_append.mpr (.inr List.mem_cons_self)
      have pl : P.length ≤ 50 := by have := congrArg List.length eP; rw [List.length_append] at this; omega
      have fl := fresh_len (S := S) (F := F) P
      obtain ⟨c5, e⟩ := rests_b3 (L := L) (S := S) (F := F) (W := fresh S F P) (c := c) (a5 := b5) (hS c cm) s1 (by omega) (by omega)
      rw [← fresh_app] at e
      exact ⟨_, _, rfl, .inl e, P ++ [c], _, c5, by rw [List.append_assoc]; exact eP, rfl⟩) L [some (.sh (casD L)), some (.sh (.list (S.map tiD))), some (.ol (F.map tiD)), some (.ol []), a4, a5, none] ⟨[], a4, a5, rfl, rfl⟩
  rw [List.append_nil] at eP
  subst eP
  have l0 : lstG [] = some (.ol []) := lstG_ok (by decide)
  have fl := fresh_len (S := S) (F := F) L
  have ad : aAdd (.list (F.map tiD)) (.list ((fresh S F L).map tiD)) = some (.ol ((F ++ fresh S F L).map tiD)) := by
    rw [List.map_append]
    exact aAdd_ll (by rw [List.length_map, List.length_map]; omega)
  refine ⟨b4, b5, ?_⟩
  have e : sLoop (tName 4) m_rests_b3 (L.map csD) [some (.sh (casD L)), some (.sh (.list (S.map tiD))), some (.ol (F.map tiD)), some (.ol []), a4, a5, none] = _ := e
  unfold casD at e ⊢
  unfold m_rests_b5
  simp?! only [l0, e, ad]
end
end Lw
namespace Lw
open PySem L2 PySem.W PySem.SeqAt Eg
theorem sortOk_ti {l : List Ti} (h : l.length ≤ 1000) : sortOk (l.map tiD) = true := by
  have z := sizeLine_eq
  simp only [sortOk, alikeB, Bool.and_eq_true, Bool.or_eq_true, List.all_eq_true, decide_eq_true_eq, List.mem_map, forall_exists_index, and_imp, forall_apply_eq_imp_iff₂, List.length_map]
  exact ⟨⟨⟨fun a _ b _ => ti_alike a b, .inl fun a _ => rfl⟩, fun a _ => ti_small a⟩, by omega⟩
theorem gSorted_ti {l : List Ti} (h : l.length ≤ 1000) : gSorted [.list (l.map tiD)] = some (.ol (sortD (l.map tiD))) := by
  simp only [gSorted]
  rw [if_pos (sortOk_ti h)]
theorem srt_eq {a b : List Ti} (ha : a.Nodup) (hb : b.Nodup) (h : ∀ x, x ∈ a ↔ x ∈ b) : sortD (a.map tiD) = sortD (b.map tiD) := by
  have p : a.Perm b := (List.perm_ext_iff_of_nodup ha hb).mpr h
  refine sort_perm (p.map tiD) (fun d hd e he => ?_) fun d hd => ?_
  · obtain ⟨x, _, rfl⟩ := List.mem_map.mp hd
    obtain ⟨y, _, rfl⟩ := List.mem_map.mp he
    exact ti_alike x y
  · obtain ⟨x, _, rfl⟩ := List.mem_map.mp hd
    exact ti_key x
section
variable {L : List Cs} {S : List Ti}
theorem mem_fresh {F : List Ti} {x : Ti} : x ∈ fresh S F L ↔ (∃ c ∈ L, hitB S F c = true ∧ c.tag = x) ∧ x ∉ F := by
  unfold fresh
  constructor
  · intro h
    obtain ⟨c, hc, rfl⟩ := List.mem_map.mp h
    obtain ⟨h1, h2⟩ := List.mem_filter.mp hc
    rw [Bool.and_eq_true, Bool.not_eq_true', decide_eq_false_iff_not] at h2
    exact ⟨⟨c, h1, h2.1, rfl⟩, h2.2⟩
  · rintro ⟨⟨c, h1, h2, rfl⟩, h3⟩
    exact List.mem_map.mpr ⟨c, List.mem_filter.mpr ⟨h1, by rw [h2, decide_eq_false h3]; rfl⟩, rfl⟩
structure LInv (L : List Cs) (S F : List Ti) : Prop where
  nd : F.Nodup
  r : ∀ x ∈ F, Rests L S x
  s : ∀ x ∈ F, x ∈ L.map (·.tag)
theorem LInv.len {F : List Ti} (h : LInv L S F) : F.length ≤ L.length := by
  have := List.Nodup.length_le_of_subset h.nd h.s
  rw [List.length_map] at this
  exact this
theorem LInv.step {F : List Ti} (nd : (L.map (·.tag)).Nodup) (h : LInv L S F) : LInv L S (F ++ fresh S F L) := by
  refine ⟨List.nodup_append.mpr ⟨h.nd, nd.sublist (List.Sublist.map _ List.filter_sublist), fun a ha b hb e => ?_⟩, fun x hx => ?_, fun x hx => ?_⟩
  · subst e
    exact (mem_fresh.mp hb).2 ha
  · rcases List.mem_append.mp hx with q | q
    · exact h.r x q
    · obtain ⟨⟨c, h1, h2, rfl⟩, _⟩ := mem_fresh.mp q
      obtain ⟨t, t1, t2⟩ := hitB_iff.mp h2
      rcases t2 with z | z
      · exact .one h1 t1 z
      · exact .more h1 t1 (h.r t z)
  · rcases List.mem_append.mp hx with q | q
    · exact h.s x q
    · obtain ⟨⟨c, h1, _, rfl⟩, _⟩ := mem_fresh.mp q
      exact List.mem_map.mpr ⟨c, h1, rfl⟩
theorem shut_of {F : List Ti} (h : fresh S F L = []) : Shut L S F := fun c hc t ht hm => by
  by_cases q : c.tag ∈ F
  · exact q
  · have : c.tag ∈ fresh S F L := mem_fresh.mpr ⟨⟨c, hc, hitB_iff.mpr ⟨t, ht, hm⟩, rfl⟩, q⟩
    rw [h] at this; cases this
theorem rests_w {a0 a1 a2 a4 a5 : Option OD} {D : List PyData} (h : small (.list D) = true) : m_rests_w4 [a0, a1, a2, some (.ol D), a4, a5, none] = .ok (!D.isEmpty) [a0, a1, a2, some (.ol D), a4, a5, none] := by
  have nn := ne_list_nil h
  have l0 : lstG [] = some (.ol []) := lstG_ok (by decide)
  unfold m_rests_w4
  simp?! only [nn, l0]
theorem rests_loop (hS : ∀ c ∈ L, SlOk c) (nd : (L.map (·.tag)).Nodup) (hl : L.length ≤ 50) (s1 : S.length ≤ 100) : ∀ (n : Nat) (F : List Ti) (D : List PyData) (a4 a5 : Option OD), LInv L S F → small (.list D) = true → (D = [] → Shut L S F) → (D = [] → 1 ≤ n) → (D ≠ [] → L.length - F.length + 2 ≤ n) →
    ∃ (F' : List Ti) (b4 b5 : Option OD), LInv L S F' ∧ Shut L S F' ∧ sWhile m_rests_w4 m_rests_b5 n [some (.sh (casD L)), some (.sh (.list (S.map tiD))), some (.ol (F.map tiD)), some (.ol D), a4, a5, none] =
      .ok .nx [some (.sh (casD L)), some (.sh (.list (S.map tiD))), some (.ol (F'.map tiD)), some (.ol []), b4, b5, none]
  | 0, _, D, _, _, _, _, _, h1, h2 => by
    by_cases q : D = []
    · have := h1 q; omega
    · have := h2 q; omega
  | n + 1, F, D, a4, a5, I, sm, sh, h1, h2 => by
    have w := rests_w (a0 := some (.sh (casD L))) (a1 := some (.sh (.list (S.map tiD)))) (a2 := some (.ol (F.map tiD))) (a4 := a4) (a5 := a5) sm
    by_cases q : D = []
    · subst q
      refine ⟨F, a4, a5, I, sh rfl, ?_⟩
      rw [v_wh, w]
      simp?! only []
    · have e0 : (!D.isEmpty) = true := by cases D with | nil => exact absurd rfl q | cons _ _ => rfl
      rw [e0] at w
      have fl := I.len
      obtain ⟨c4, c5, e⟩ := rests_round (L := L) (S := S) (F := F) (D := D) (a4 := a4) (a5 := a5) hS hl s1 (by omega)
      have I' := I.step nd
      have fl' := I'.len
      rw [List.length_append] at fl'
      have hn := h2 q
      obtain ⟨F', b4, b5, I2, S2, e2⟩ := rests_loop hS nd hl s1 n (F ++ fresh S F L) ((fresh S F L).map tiD) c4 c5 I' (tis_small _) (fun z => by
        have : fresh S F L = [] := List.map_eq_nil_iff.mp z
        rw [this, List.append_nil]; exact shut_of this) (fun _ => by omega) (fun z => by
        have : 0 < (fresh S F L).length := List.length_pos_iff.mpr fun y => z (by rw [y]; rfl)
        rw [List.length_append]; omega)
      refine ⟨F', b4, b5, I2, S2, ?_⟩
      rw [← e2, v_wh, w]
      simp?! only [e, v_whn]
theorem same_mem {R F : List Ti} (h1 : RInv L S R []) (h2 : LInv L S F) (h3 : Shut L S F) : ∀ x, x ∈ R ↔ x ∈ F := by
  have s1 : Shut L S R := fun c hc t ht hm => (h1.c c hc t ht hm).resolve_right fun z => nomatch z
  exact fun x => ⟨fun h => h3.all (h1.r x h), fun h => s1.all (h2.r x h)⟩
theorem rests41 (hS : ∀ c ∈ L, SlOk c) (nd : (L.map (·.tag)).Nodup) (hl : L.length ≤ 50) (s1 : S.length ≤ 100) {R : List Ti} (hR : RInv L S R []) : fn_rests [some (.sh (casD L)), some (.sh (.list (S.map tiD)))] = .ok (.sh (.tuple (sortD (R.map tiD)))) [none, none] := by
  obtain ⟨F, b4, b5, I, sh, e⟩ := rests_loop hS nd hl s1 5000 [] [.none] none none ⟨.nil, (fun x h => nomatch h), (fun x h => nomatch h)⟩ (by decide) (fun h => nomatch h) (fun _ => by omega) (fun _ => by rw [List.length_nil]; omega)
  have e : sWhile m_rests_w4 m_rests_b5 5000 [some (.sh (casD L)), some (.sh (.list (S.map tiD))), some (.ol []), some (.ol [.none]), none, none, none] = _ := e
  have l0 : lstG [] = some (.ol []) := lstG_ok (by decide)
  have l1 : ∀ a : PyData, lstG [a] = some (.ol [a]) := fun _ => if_pos (show 1 ≤ sizeLine by decide)
  have fl := I.len
  have gs := gSorted_ti (l := F) (by omega)
  rw [srt_eq hR.nd I.nd (same_mem hR I sh)]
  unfold fn_rests m_rests
  simp?! only [l0, l1, e, gs, gTup_l]
theorem rests_on41 {t : Ti} (hS : ∀ c ∈ L, SlOk c) (nd : (L.map (·.tag)).Nodup) (hl : L.length ≤ 50) : ∃ R, RInv L [t] R [] ∧ fn_rests_on [some (.sh (casD L)), some (.sh (tiD t))] = .ok (.sh (.tuple (sortD (R.map tiD)))) [none, none] := by
  obtain ⟨R, I, e⟩ := resting41 (S := [t]) hS nd (by omega) (by rw [List.length_singleton]; omega)
  have rl := I.len
  have e : fn_all_resting [some (.sh (casD L)), some (.sh (.list [tiD t]))] = _ := e
  have l1 : ∀ a : PyData, lstG [a] = some (.ol [a]) := fun _ => if_pos (show 1 ≤ sizeLine by decide)
  have gs := gSorted_ti (l := R) (by omega)
  refine ⟨R, I, ?_⟩
  unfold fn_rests_on m_rests_on
  simp?! only [l1, e, gs, gTup_l]
end
end Lw
namespace Lw
open PySem L2 PySem.W PySem.SeqAt Eg
def lastW (N : List Sl) (t : Ti) : Option PyData := ((N.filter fun s => decide (s.t = t)).getLast?).map (·.w)
theorem lastW_app (N : List Sl) (s : Sl) (t : Ti) : lastW (N ++ [s]) t = if s.t = t then some s.w else lastW N t := by
  unfold lastW
  rw [List.filter_append, List.filter_cons]
  by_cases h : s.t = t
  · rw [if_pos h, decide_eq_true h, if_pos rfl, List.filter_nil, List.getLast?_concat]
    rfl
  · rw [if_neg h, decide_eq_false h, if_neg Bool.false_ne_true, List.filter_nil, List.append_nil]
theorem lastW_V {N : List Sl} {t : Ti} {d : PyData} (hN : ∀ s ∈ N, SlF s) (h : lastW N t = some d) : d = ysD ∨ d = noD := by
  unfold lastW at h
  cases q : (N.filter fun s => decide (s.t = t)).getLast? with
  | none => rw [q] at h; cases h
  | some s =>
    rw [q] at h
    cases h
    exact (hN s (List.mem_filter.mp (List.mem_of_getLast? q)).1).w
theorem known_fill (N : List Sl) (t : Ti) : kAt (kFill [] (N.map fun s => (tiD s.t, s.w))) (tiD t) = lastW N t := by
  have gen : ∀ (R : List Sl), kAt (kFill [] (R.reverse.map fun s => (tiD s.t, s.w))) (tiD t) = lastW R.reverse t := fun R => by
    induction R with
    | nil => rfl
    | cons s R ih =>
      rw [List.reverse_cons, List.map_append, kFill_append, lastW_app]
      show kAt (kPut (kFill [] (R.reverse.map fun s => (tiD s.t, s.w))) (tiD s.t) s.w) (tiD t) = _
      rw [kAt_put, ih]
      by_cases h : s.t = t
      · rw [if_pos h, if_pos (nk_ti.mpr h)]
      · rw [if_neg h, if_neg fun q => h (nk_ti.mp q)]
  have := gen N.reverse
  rw [List.reverse_reverse] at this
  exact this
def stWord (L : List Cs) (N : List Sl) (t : Ti) : Option PyData := if t ∈ L.map (·.tag) then stD L t else lastW N t
section
variable {L : List Cs} {N : List Sl}
theorem word_V {t : Ti} {d : PyData} (hN : ∀ s ∈ N, SlF s) (h : stWord L N t = some d) : d = ysD ∨ d = noD := by
  unfold stWord at h
  split at h
  · exact isV_cases (stD_V h)
  · exact lastW_V hN h
def KnR (L : List Cs) (N : List Sl) (kvs : List (PyData × PyData)) : Prop := ∀ t : Ti, (kAt kvs (tiD t)).getD .none = wdD (stWord L N t)
theorem known_b3 {kvs k2 : List (PyData × PyData)} {c : Cs} {a0 a1 a5 a6 a7 : Option OD} (hk : KdR k2 L) (l : kvs.length < 1000) :
    m_all_known_b3 [a0, a1, some (.kd kvs), some (.kd k2), some (.sh (csD c)), a5, a6, a7] = .ok .nx [a0, a1, some (.kd (kPut kvs (tiD c.tag) (wdD (stD L c.tag)))), some (.kd k2), some (.sh (csD c)), a5, a6, a7] := by
  have z := sizeLine_eq
  have g0 := gIx_cs0 c
  have sz : kvs.length < sizeLine := by omega
  have gt : ∀ {a0 a1 a2 a4 a5 a6 a7 : Option OD}, getOrK 3 (tiD c.tag) .none [a0, a1, a2, some (.kd k2), a4, a5, a6, a7] = .ok (wdD (stD L c.tag)) [a0, a1, a2, some (.kd k2), a4, a5, a6, a7] := fun {_ _ _ _ _ _ _} => by
    rw [v_getOrK (kvs := k2) rfl (key_ti _), hk]
    cases stD L c.tag <;> rfl
  have kn : ∀ {a0 a1 a2 a4 a5 a6 a7 : Option OD} (mk : M PyData), mKGetN 3 mk [a0, a1, a2, some (.kd k2), a4, a5, a6, a7] = (mk [a0, a1, a2, some (.kd k2), a4, a5, a6, a7]).go fun k => getOrK 3 k .none := fun {_ _ _ _ _ _ _} mk => v_kgetN (kvs := k2) rfl
  have kp : ∀ (d : PyData) (ρ : Rho), kputO (some (some (.kd kvs))) 2 d (tiD c.tag) ρ = .ok .nx (ρ.set 2 (some (.kd (kPut kvs (tiD c.tag) d)))) := fun d ρ => v_kputO (key_ti _) sz
  unfold m_all_known_b3
  simp?! only [g0, kn, gt, v_kput, kp]
theorem known41 (hL : Lined [] L) (hF : ∀ c ∈ L, CsF c) (hl : L.length ≤ 100) (nl : N.length ≤ 100) : ∃ kvs, KnR L N kvs ∧ fn_all_known [some (.sh (casD L)), some (.sh (.tuple (N.map slD)))] = .ok (.kd kvs) [none, none] := by
  have z := sizeLine_eq
  obtain ⟨k2, hk, ea⟩ := all37 hL hF hl
  have e1 : mKComp ((mName 1).bind seqItems) (tTup [tName 5, tName 6, tName 7]) (M.ret true) m_all_known_e1 m_all_known_e2 [5, 6, 7] [some (.sh (casD L)), some (.sh (.tuple (N.map slD))), none, none, none, none, none, none] =
      .ok (.kd (kFill [] (N.map fun s => (tiD s.t, s.w)))) [some (.sh (casD L)), some (.sh (.tuple (N.map slD))), none, none, none, none, none, none] := by
    refine kcomp_pure (f := slD) (fun s => tiD s.t) (fun s => s.w) (by simp?! only []) (by omega) (fun s _ => key_ti _) fun s _ => ⟨[some (.sh (casD L)), some (.sh (.tuple (N.map slD))), none, none, none, some (.sh (tiD s.t)), some (.sh (.tuple (s.G.map hd))), some (.sh s.w)], [some (.sh (casD L)), some (.sh (.tuple (N.map slD))), none, none, none, some (.sh (tiD s.t)), some (.sh (.tuple (s.G.map hd))), some (.sh s.w)], [some (.sh (casD L)), some (.sh (.tuple (N.map slD))), none, none, none, some (.sh (tiD s.t)), some (.sh (.tuple (s.G.map hd))), some (.sh s.w)], rfl, ?_, ?_, rfl⟩
    · unfold m_all_known_e1
      simp?! only []
    · unfold m_all_known_e2
      simp?! only []
  have fl := kFill_len (N.map fun s => (tiD s.t, s.w)) []
  rw [List.length_nil, List.length_map] at fl
  obtain ⟨ρ', e, P, kvs, b4, eP, rfl, hv, kl⟩ := loop_inv (f := csD) (t := tName 4) (b := m_all_known_b3)
    (fun rest ρ => ∃ (P : List Cs) (kvs : List (PyData × PyData)) (b4 : Option OD), L = P ++ rest ∧ ρ = [some (.sh (casD L)), some (.sh (.tuple (N.map slD))), some (.kd kvs), some (.kd k2), b4, none, none, none] ∧ (∀ t : Ti, kAt kvs (tiD t) = if t ∈ P.map (·.tag) then some (wdD (stD L t)) else lastW N t) ∧ kvs.length ≤ 100 + P.length) (by
      rintro c rest ρ ⟨P, kvs, b4, eP, rfl, hv, kl⟩
      have pl : P.length ≤ 100 := by have := congrArg List.length eP; rw [List.length_append] at this; omega
      have eb := known_b3 (L := L) (kvs := kvs) (k2 := k2) (c := c) (a0 := some (.sh (casD L))) (a1 := some (.sh (.tuple (N.map slD)))) (a5 := none) (a6 := none) (a7 := none) hk (by omega)
      refine ⟨_, _, rfl, .inl eb, P ++ [c], _, _, by rw [List.append_assoc]; exact eP, rfl, fun t => ?_, ?_⟩
      · rw [kAt_put, hv]
        by_cases h : c.tag = t
        · subst h
          rw [if_pos rfl, if_pos (by rw [List.map_append]; exact List.mem_append.mpr (.inr List.mem_cons_self))]
        · rw [if_neg fun q => h (nk_ti.mp q)]
          by_cases h2 : t ∈ P.map (·.tag)
          · rw [if_pos h2, if_pos (by rw [List.map_append]; exact List.mem_append.mpr (.inl h2))]
          · rw [if_neg h2, if_neg fun q => by
              rw [List.map_append] at q
              rcases List.mem_append.mp q with q | q
              · exact h2 q
              · exact h (List.mem_singleton.mp q).symm]
      · have := kPut_len kvs (tiD c.tag) (wdD (stD L c.tag))
        rw [List.length_append, List.length_singleton]
        omega) L [some (.sh (casD L)), some (.sh (.tuple (N.map slD))), some (.kd (kFill [] (N.map fun s => (tiD s.t, s.w)))), some (.kd k2), none, none, none, none]
    ⟨[], _, none, rfl, rfl, fun t => by rw [known_fill, List.map_nil, if_neg (fun h => nomatch h)], by rw [List.length_nil]; omega⟩
  rw [List.append_nil] at eP
  subst eP
  refine ⟨kvs, fun t => ?_, ?_⟩
  · rw [hv]
    unfold stWord
    split
    · rfl
    · cases lastW N t <;> rfl
  · have e : sLoop (tName 4) m_all_known_b3 (L.map csD) _ = _ := e
    unfold casD at e ea e1 ⊢
    unfold fn_all_known m_all_known
    simp?! only [e1, ea, e]
    rfl
def turnB (L : List Cs) (N : List Sl) (s : Sl) : Bool := match stWord L N s.t with
  | none => false
  | some d => match gNe d s.w with
    | some (.bool b) => b
    | _ => false
theorem turn_word (hN : ∀ s ∈ N, SlF s) {s : Sl} (hs : SlF s) : (stWord L N s.t = none ∧ turnB L N s = false) ∨ ∃ d b, stWord L N s.t = some d ∧ (d = ysD ∨ d = noD) ∧ turnB L N s = b ∧ gNe d s.w = some (.bool b) ∧ gNotIn d (.tuple [.none, s.w]) = some (.bool b) := by
  cases q : stWord L N s.t with
  | none => left; refine ⟨rfl, ?_⟩; unfold turnB; rw [q]
  | some d =>
    right
    have hd := word_V hN q
    have hb : ∃ b, gNe d s.w = some (.bool b) ∧ gNotIn d (.tuple [.none, s.w]) = some (.bool b) := by
      rcases hd with rfl | rfl <;> rcases hs.w with h | h <;> rw [h]
      · exact ⟨false, rfl, rfl⟩
      · exact ⟨true, rfl, rfl⟩
      · exact ⟨true, rfl, rfl⟩
      · exact ⟨false, rfl, rfl⟩
    obtain ⟨b, b1, b2⟩ := hb
    refine ⟨d, b, rfl, hd, ?_, b1, b2⟩
    unfold turnB
    rw [q]
    show (match gNe d s.w with | some (.bool b) => b | _ => false) = b
    rw [b1]
theorem turned41 {kvs : List (PyData × PyData)} (hN : ∀ s ∈ N, SlF s) {s : Sl} (hs : SlF s) (hk : KnR L N kvs) : fn_is_turned [some (.sh (slD s)), some (.sn kvs)] = .ok (.sh (.bool (turnB L N s))) [none, none] := by
  have t2 : ∀ a b : PyData, tupG [a, b] = some (.tuple [a, b]) := fun _ _ => if_pos (show 2 ≤ sizeLine by decide)
  have et : ∀ {a0 a1 a2 a3 a4 : Option OD}, tTup [tName 2, tName 3, tName 4] (slD s) [a0, a1, a2, a3, a4] = some [a0, a1, some (.sh (tiD s.t)), some (.sh (.tuple (s.G.map hd))), some (.sh s.w)] := rfl
  have gt : ∀ {a0 a2 a3 a4 : Option OD}, getOrK 1 (tiD s.t) .none [a0, some (.sn kvs), a2, a3, a4] = .ok (wdD (stWord L N s.t)) [a0, some (.sn kvs), a2, a3, a4] := fun {_ _ _ _} => by
    rw [v_getOrK (kvs := kvs) rfl (key_ti _), hk]
  have kn : ∀ {a0 a2 a3 a4 : Option OD} (mk : M PyData), mKGetN 1 mk [a0, some (.sn kvs), a2, a3, a4] = (mk [a0, some (.sn kvs), a2, a3, a4]).go fun k => getOrK 1 k .none := fun {_ _ _ _} mk => v_kgetN (kvs := kvs) rfl
  rcases turn_word (L := L) hN hs with ⟨h1, h2⟩ | ⟨d, b, h1, _, h2, _, h3⟩
  · rw [h1] at gt
    have gt : ∀ {a0 a2 a3 a4 : Option OD}, getOrK 1 (tiD s.t) .none [a0, some (.sn kvs), a2, a3, a4] = .ok .none [a0, some (.sn kvs), a2, a3, a4] := gt
    have gi : gNotIn .none (.tuple [.none, s.w]) = some (.bool false) := by rcases hs.w with h | h <;> rw [h] <;> rfl
    rw [h2]
    unfold fn_is_turned m_is_turned
    simp?! only [et, kn, gt, t2, gi]
  · rw [h1] at gt
    have gt : ∀ {a0 a2 a3 a4 : Option OD}, getOrK 1 (tiD s.t) .none [a0, some (.sn kvs), a2, a3, a4] = .ok d [a0, some (.sn kvs), a2, a3, a4] := gt
    rw [h2]
    unfold fn_is_turned m_is_turned
    simp?! only [et, kn, gt, t2, h3]
end
end Lw
namespace Eg
open PySem L2 PySem.W PySem.SeqAt
section
variable {α : Type} {src : M (List PyData)} {t : Tgt} {mt : M Bool} {me : M PyData} {vs : List Nat} {ρ ρ0 : Rho}
theorem comp_pureI {l : List α} {f : α → PyData} (Inv : Rho → Prop) (g : α → PyData) (hs : src ρ = .ok (l.map f) ρ0) (hl : l.length ≤ sizeLine) (h0 : Inv ρ0) (len : ∀ r, Inv r → r.length = ρ0.length)
    (step : ∀ x ∈ l, ∀ r, Inv r → ∃ ρ1 ρ2, t (f x) (wipeR r vs) = some ρ1 ∧ me ρ1 = .ok (g x) ρ2 ∧ Inv ρ2) : ∃ r, Inv r ∧ mComp src t (M.ret true) me vs ρ = .ok (.ol (l.map g)) (restR ρ0 r vs) := by
  obtain ⟨ρ', i, e⟩ := lc_mapT (Inv := Inv) f g l [] ρ0 h0 (by rw [List.length_nil]; omega) step
  exact ⟨ρ', i, by rw [v_comp, hs, v_go, e, v_cpk _ _ _ (len _ i), List.nil_append]⟩
theorem comp_filtI {l : List α} {f : α → PyData} (Inv : Rho → Prop) (b : α → Bool) (g : α → PyData) (hs : src ρ = .ok (l.map f) ρ0) (hl : l.length ≤ sizeLine) (h0 : Inv ρ0) (len : ∀ r, Inv r → r.length = ρ0.length)
    (step : ∀ x ∈ l, ∀ r, Inv r → ∃ ρ1 ρ2, t (f x) (wipeR r vs) = some ρ1 ∧ mt ρ1 = .ok (b x) ρ2 ∧ (b x = false → Inv ρ2) ∧ (b x = true → ∃ ρ3, me ρ2 = .ok (g x) ρ3 ∧ Inv ρ3)) : ∃ r, Inv r ∧ mComp src t mt me vs ρ = .ok (.ol ((l.filter b).map g)) (restR ρ0 r vs) := by
  obtain ⟨ρ', i, e⟩ := lc_filtT (Inv := Inv) f b g l [] ρ0 h0 (by rw [List.length_nil]; omega) step
  exact ⟨ρ', i, by rw [v_comp, hs, v_go, e, v_cpk _ _ _ (len _ i), List.nil_append]⟩
end
end Eg
namespace Lw
open PySem L2 PySem.W PySem.SeqAt Eg
section
variable {L : List Cs} {N : List Sl}
theorem own_turned41 (hL : Lined [] L) (hF : ∀ c ∈ L, CsF c) (hl : L.length ≤ 14) (hN : ∀ s ∈ N, SlF s) (nl : N.length ≤ 100) {s : Sl} (hs : SlF s) :
    fn_own_is_turned [some (.sh (casD L)), some (.sh (.tuple (N.map slD))), some (.sh (slD s))] = .ok (.sh (.bool (turnB L N s))) [none, none, none] := by
  have z := sizeLine_eq
  have gs0 := gIx_sl0 s
  have gs2 := gIx_sl2 s
  have ec : mComp ((mName 1).bind seqItems) (tName 5) m_own_is_turned_t2 m_own_is_turned_e1 [5] [some (.sh (casD L)), some (.sh (.tuple (N.map slD))), some (.sh (slD s)), none, none, none] =
      .ok (.ol ((N.filter fun x => decide (x.t = s.t)).map (·.w))) [some (.sh (casD L)), some (.sh (.tuple (N.map slD))), some (.sh (slD s)), none, none, none] := by
    refine comp_filt (f := slD) (fun x => decide (x.t = s.t)) (·.w) (by simp?! only []) (by omega) fun x _ => ⟨[some (.sh (casD L)), some (.sh (.tuple (N.map slD))), some (.sh (slD s)), none, none, some (.sh (slD x))], [some (.sh (casD L)), some (.sh (.tuple (N.map slD))), some (.sh (slD s)), none, none, some (.sh (slD x))], rfl, ?_, rfl, fun _ => ⟨[some (.sh (casD L)), some (.sh (.tuple (N.map slD))), some (.sh (slD s)), none, none, some (.sh (slD x))], ?_, rfl⟩⟩
    · have g0 := gIx_sl0 x
      have ge := gEq_ti x.t s.t
      unfold m_own_is_turned_t2
      simp?! only [g0, gs0, ge]
    · have g2 := gIx_sl2 x
      unfold m_own_is_turned_e1
      simp?! only [g2]
  have et : ∀ {a3 a4 : Option OD}, mComp ((mName 0).bind seqItems) (tName 5) (M.ret true) m_own_is_turned_e3 [5] [some (.sh (casD L)), some (.sh (.tuple (N.map slD))), some (.sh (slD s)), a3, a4, none] =
      .ok (.ol (L.map fun c => tiD c.tag)) [some (.sh (casD L)), some (.sh (.tuple (N.map slD))), some (.sh (slD s)), a3, a4, none] := fun {a3 a4} => by
    refine comp_pure (f := csD) (fun c => tiD c.tag) (by unfold casD; simp?! only []) (by omega) fun c _ => ⟨[some (.sh (casD L)), some (.sh (.tuple (N.map slD))), some (.sh (slD s)), a3, a4, some (.sh (csD c))], [some (.sh (casD L)), some (.sh (.tuple (N.map slD))), some (.sh (slD s)), a3, a4, some (.sh (csD c))], rfl, ?_, rfl⟩
    have g0 := gIx_cs0 c
    unfold m_own_is_turned_e3
    simp?! only [g0]
  have gi := gIn_tis (L.map (·.tag)) s.t
  rw [List.map_map] at gi
  have gi : gIn (tiD s.t) (.list (L.map fun c => tiD c.tag)) = some (.bool (decide (s.t ∈ L.map (·.tag)))) := gi
  have sm : small (.list ((N.filter fun x => decide (x.t = s.t)).map (·.w))) = true := decide_eq_true (by
    rw [PyData.depth]
    have := depth_all 0 (ds := (N.filter fun x => decide (x.t = s.t)).map (·.w)) fun d hd => by
      obtain ⟨x, hx, rfl⟩ := List.mem_map.mp hd
      exact (word_th (hN x (List.mem_filter.mp hx).1).w).k
    omega)
  have nn := ne_list_nil sm
  have l0 : lstG [] = some (.ol []) := lstG_ok (by decide)
  -- the word of the rumour
  have later : ∃ a3 : Option OD, ∀ {R : M Out}, sSeq (sSet 3 (mComp ((mName 1).bind seqItems) (tName 5) m_own_is_turned_t2 m_own_is_turned_e1 [5])) (sSeq (sSet 4 (mIf ((m2 gNe (mSlot 3) (((mFix lstG (mNil)).bind fz).bind fun d => M.ret (.dat d))).bind asBool) ((m2 gIx (mSlot 3) (((M.ret (.int 1)).bind negD).bind fun d => M.ret (.dat d))).bind fun d => M.ret (.sh d)) ((M.ret .none).bind fun d => M.ret (.sh d)))) R) [some (.sh (casD L)), some (.sh (.tuple (N.map slD))), some (.sh (slD s)), none, none, none] =
      R [some (.sh (casD L)), some (.sh (.tuple (N.map slD))), some (.sh (slD s)), a3, some (.sh (wdD (lastW N s.t))), none] := by
    refine ⟨some (.ol ((N.filter fun x => decide (x.t = s.t)).map (·.w))), fun {R} => ?_⟩
    rcases List.eq_nil_or_concat (N.filter fun x => decide (x.t = s.t)) with q | ⟨A, x, q⟩
    · have el : lastW N s.t = none := by unfold lastW; rw [q]; rfl
      rw [q] at nn ec
      rw [el, q]
      have nn : gNe (.list (List.map (·.w) ([] : List Sl))) (.list []) = some (.bool false) := nn
      simp?! only [ec, l0, nn]
      rfl
    · rw [List.concat_eq_append] at q
      have el : lastW N s.t = some x.w := by unfold lastW; rw [q, List.getLast?_concat]; rfl
      rw [q, List.map_append] at nn ec
      rw [el, q, List.map_append]
      have lx := (last20 (ds := A.map (·.w)) (d := x.w)).1
      have nn : gNe (.list (A.map (·.w) ++ [x.w])) (.list []) = some (.bool true) := by rw [show A.map (·.w) ++ [x.w] = A.map (·.w) ++ List.map (·.w) [x] from rfl, nn]; cases A <;> rfl
      have ec : mComp ((mName 1).bind seqItems) (tName 5) m_own_is_turned_t2 m_own_is_turned_e1 [5] [some (.sh (casD L)), some (.sh (.tuple (N.map slD))), some (.sh (slD s)), none, none, none] = .ok (.ol (A.map (·.w) ++ [x.w])) [some (.sh (casD L)), some (.sh (.tuple (N.map slD))), some (.sh (slD s)), none, none, none] := ec
      have ng : negD (.int 1) = M.ret (.int (-1)) := rfl
      show _ = R [some (.sh (casD L)), some (.sh (.tuple (N.map slD))), some (.sh (slD s)), some (.ol (A.map (·.w) ++ [x.w])), some (.sh x.w), none]
      simp?! only [ec, l0, nn, ng, lx]
  obtain ⟨a3, later⟩ := later
  -- what stands
  have fin : ∀ {a4 : Option OD}, a4 = some (.sh (wdD (stWord L N s.t))) → (sRet ((mAndV (m1 gNotN (mSlot 4)) (m2 gNe (mSlot 4) ((m2 gIx (mSlot 2) ((M.ret (.int 2)).bind fun d => M.ret (.dat d))).bind fun d => M.ret (.dat d)))).bind fun d => M.ret (.sh d))) [some (.sh (casD L)), some (.sh (.tuple (N.map slD))), some (.sh (slD s)), a3, a4, none] =
      .ok (.rt (.sh (.bool (turnB L N s)))) [some (.sh (casD L)), some (.sh (.tuple (N.map slD))), some (.sh (slD s)), a3, a4, none] := fun {a4} e => by
    rcases turn_word (L := L) hN hs with ⟨h1, h2⟩ | ⟨d, b, h1, hd, h2, h3, _⟩
    · rw [h1] at e
      subst e
      rw [h2]
      have g : gNotN (wdD none) = some (.bool false) := rfl
      simp?! only [g]
    · rw [h1] at e
      subst e
      rw [h2]
      have g : gNotN d = some (.bool true) := by rcases hd with rfl | rfl <;> rfl
      show _ = Res.ok (Out.rt (.sh (.bool b))) [some (.sh (casD L)), some (.sh (.tuple (N.map slD))), some (.sh (slD s)), a3, some (.sh d), none]
      show (sRet _) [some (.sh (casD L)), some (.sh (.tuple (N.map slD))), some (.sh (slD s)), a3, some (.sh d), none] = _
      simp?! only [g, gs2, h3]
  have hb : ∃ a4, m_own_is_turned [some (.sh (casD L)), some (.sh (.tuple (N.map slD))), some (.sh (slD s)), none, none, none] = .ok (.rt (.sh (.bool (turnB L N s)))) [some (.sh (casD L)), some (.sh (.tuple (N.map slD))), some (.sh (slD s)), a3, a4, none] := by
    by_cases q : s.t ∈ L.map (·.tag)
    · obtain ⟨c, hc, et0⟩ := List.mem_map.mp q
      obtain ⟨A, S, eL⟩ := List.append_of_mem hc
      have sl : S.length < 15 := by have := congrArg List.length eL; rw [List.length_append, List.length_cons] at this; omega
      have es := stands37 hL hF (by omega) 15 A S c eL sl
      rw [et0] at es
      rw [decide_eq_true q] at gi
      have ew : stWord L N s.t = stD L s.t := if_pos q
      have fin := fin (a4 := some (.sh (wdD (stD L s.t)))) (by rw [ew])
      refine ⟨some (.sh (wdD (stD L s.t))), ?_⟩
      unfold m_own_is_turned
      rw [later]
      simp?! only [gs0, et, gi, es]
      exact fin
    · rw [decide_eq_false q] at gi
      have ew : stWord L N s.t = lastW N s.t := if_neg q
      have fin := fin (a4 := some (.sh (wdD (lastW N s.t)))) (by rw [ew])
      refine ⟨some (.sh (wdD (lastW N s.t))), ?_⟩
      unfold m_own_is_turned
      rw [later]
      simp?! only [gs0, et, gi]
      exact fin
  obtain ⟨a4, hb⟩ := hb
  unfold fn_own_is_turned
  simp?! only [hb]
end
end Lw
namespace Lw
open PySem L2 PySem.W PySem.SeqAt Eg
def setT (l : List Ti) : List PyData := sortD (once (l.map tiD))
theorem mem_onceT {l : List Ti} {d : PyData} : d ∈ once (l.map tiD) ↔ d ∈ l.map tiD := by
  refine ⟨once_mem, fun h => ?_⟩
  obtain ⟨x, _, rfl⟩ := List.mem_map.mp h
  obtain ⟨e, he, q⟩ := once_all h
  obtain ⟨y, _, rfl⟩ := List.mem_map.mp (once_mem he)
  rw [← nk_ti.mp q]; exact he
theorem setT_eq {a b : List Ti} (h : ∀ x, x ∈ a ↔ x ∈ b) : setT a = setT b := by
  have mm : ∀ d, d ∈ a.map tiD ↔ d ∈ b.map tiD := fun d => by
    constructor <;> intro q <;> obtain ⟨x, hx, rfl⟩ := List.mem_map.mp q
    · exact List.mem_map.mpr ⟨x, (h x).mp hx, rfl⟩
    · exact List.mem_map.mpr ⟨x, (h x).mpr hx, rfl⟩
  have p : (once (a.map tiD)).Perm (once (b.map tiD)) := (List.perm_ext_iff_of_nodup (Eg.nodup_of_map (once_nodup _)) (Eg.nodup_of_map (once_nodup _))).mpr fun d => by rw [mem_onceT, mem_onceT]; exact mm d
  unfold setT
  refine sort_perm p (fun d hd e he => ?_) fun d hd => ?_
  · obtain ⟨x, _, rfl⟩ := List.mem_map.mp (once_mem hd)
    obtain ⟨y, _, rfl⟩ := List.mem_map.mp (once_mem he)
    exact ti_alike x y
  · obtain ⟨x, _, rfl⟩ := List.mem_map.mp (once_mem hd)
    exact ti_key x
theorem gKeys_ti {l : List Ti} (h : l.length < 64) : gKeys [.list (l.map tiD)] = some (l.map tiD) := by
  show (if _ then _ else _) = _
  rw [if_pos ⟨by rw [List.all_map, List.all_eq_true]; exact fun x _ => key_ti x, by rw [List.length_map]; exact h⟩]
theorem gOnce_ti {l : List Ti} (h : l.length ≤ 1000) : gOnce (l.map tiD) = some (.ol (setT l)) := if_pos (sortOk_ti h)
theorem sort_ti (R : List Ti) : ∃ R2 : List Ti, sortD (R.map tiD) = R2.map tiD ∧ (∀ x, x ∈ R2 ↔ x ∈ R) ∧ R2.length = R.length := by
  have pm : (sortD (R.map tiD)).Perm (R.map tiD) := List.mergeSort_perm _ _
  obtain ⟨m, hm⟩ := map_choose (f := tiD) (R := sortD (R.map tiD)) fun d hd => by
    obtain ⟨x, _, rfl⟩ := List.mem_map.mp (pm.mem_iff.mp hd)
    exact ⟨x, rfl⟩
  rw [hm] at pm
  refine ⟨m, hm, fun x => ?_, ?_⟩
  · constructor <;> intro h
    · obtain ⟨y, hy, e⟩ := List.mem_map.mp (pm.mem_iff.mp (List.mem_map.mpr ⟨x, h, rfl⟩))
      rw [← ti_inj e]; exact hy
    · obtain ⟨y, hy, e⟩ := List.mem_map.mp (pm.mem_iff.mpr (List.mem_map.mpr ⟨x, h, rfl⟩))
      rw [← ti_inj e]; exact hy
  · have := pm.length_eq
    rw [List.length_map, List.length_map] at this
    exact this
section
variable {L : List Cs} {N : List Sl}
def turnedT (L : List Cs) (N : List Sl) : List Ti := (L.filter fun c => (sl c).any (turnB L N)).map (·.tag)
theorem shaken_any {kvs : List (PyData × PyData)} {o : OD} {c : Cs} (hN : ∀ s ∈ N, SlF s) (hc : SlOk c) (hk : KnR L N kvs) (ho : o = .kd kvs ∨ o = .sn kvs) :
    ∃ o', (o' = OD.kd kvs ∨ o' = .sn kvs) ∧ m_shaken_t3 [some (.sh (casD L)), some (.sh (.tuple (N.map slD))), some o, none, some (.sh (csD c)), none] =
      .ok ((sl c).any (turnB L N)) [some (.sh (casD L)), some (.sh (.tuple (N.map slD))), some o', none, some (.sh (csD c)), none] := by
  have z := sizeLine_eq
  have g4 := gIx_cs4 hc
  obtain ⟨_, l5, hs⟩ := sl_of hc
  obtain ⟨r, ⟨o', x5, h1, rfl⟩, e⟩ := comp_pureI (src := (m2 gIx (mSlot 4) ((M.ret (.int 4)).bind fun d => M.ret (.dat d))).bind seqItems) (t := tName 5) (me := m_shaken_e1) (vs := [5])
    (ρ := [some (.sh (casD L)), some (.sh (.tuple (N.map slD))), some o, none, some (.sh (csD c)), none]) (ρ0 := [some (.sh (casD L)), some (.sh (.tuple (N.map slD))), some o, none, some (.sh (csD c)), none]) (l := sl c) (f := slD)
    (fun r => ∃ (o' : OD) (x5 : Option OD), (o' = .kd kvs ∨ o' = .sn kvs) ∧ r = [some (.sh (casD L)), some (.sh (.tuple (N.map slD))), some o', none, some (.sh (csD c)), x5]) (fun s => .bool (turnB L N s)) (by simp?! only [g4]) (by omega) ⟨o, none, ho, rfl⟩ (fun r ⟨_, _, _, er⟩ => by rw [er]; rfl) (by
      rintro s hs1 r ⟨o', x5, h1, rfl⟩
      have et := turned41 (L := L) (N := N) hN (hs s hs1) hk
      refine ⟨[some (.sh (casD L)), some (.sh (.tuple (N.map slD))), some o', none, some (.sh (csD c)), some (.sh (slD s))], [some (.sh (casD L)), some (.sh (.tuple (N.map slD))), some (.sn kvs), none, some (.sh (csD c)), some (.sh (slD s))], rfl, ?_, .sn kvs, _, .inr rfl, rfl⟩
      rcases h1 with rfl | rfl
      · unfold m_shaken_e1
        simp?! only [v_kfrz, v_kfrk, et]
      · unfold m_shaken_e1
        simp?! only [v_kfrz, v_kfrn, et])
  have e : mComp ((m2 gIx (mSlot 4) ((M.ret (.int 4)).bind fun d => M.ret (.dat d))).bind seqItems) (tName 5) (M.ret true) m_shaken_e1 [5] [some (.sh (casD L)), some (.sh (.tuple (N.map slD))), some o, none, some (.sh (csD c)), none] = .ok (.ol ((sl c).map fun s => .bool (turnB L N s))) [some (.sh (casD L)), some (.sh (.tuple (N.map slD))), some o', none, some (.sh (csD c)), none] := e
  have ga := gAny_map (turnB L N) (sl c)
  refine ⟨o', h1, ?_⟩
  unfold m_shaken_t3
  simp?! only [e, ga]
theorem shaken41 (hL : Lined [] L) (hF : ∀ c ∈ L, CsF c) (hS : ∀ c ∈ L, SlOk c) (hl : L.length ≤ 20) (hN : ∀ s ∈ N, SlF s) (nl : N.length ≤ 100) :
    ∃ R, RInv L (turnedT L N) R [] ∧ fn_shaken [some (.sh (casD L)), some (.sh (.tuple (N.map slD)))] = .ok (.sh (.tuple (setT (turnedT L N ++ R)))) [none, none] := by
  have z := sizeLine_eq
  obtain ⟨kvs, hk, ek⟩ := known41 (L := L) (N := N) hL hF (by omega) nl
  obtain ⟨r, ⟨o', x4, h1, rfl⟩, e⟩ := comp_filtI (src := (mName 0).bind seqItems) (t := tName 4) (mt := m_shaken_t3) (me := m_shaken_e2) (vs := [4])
    (ρ := [some (.sh (casD L)), some (.sh (.tuple (N.map slD))), some (.kd kvs), none, none, none]) (ρ0 := [some (.sh (casD L)), some (.sh (.tuple (N.map slD))), some (.kd kvs), none, none, none]) (l := L) (f := csD)
    (fun r => ∃ (o' : OD) (x4 : Option OD), (o' = .kd kvs ∨ o' = .sn kvs) ∧ r = [some (.sh (casD L)), some (.sh (.tuple (N.map slD))), some o', none, x4, none]) (fun c => (sl c).any (turnB L N)) (fun c => tiD c.tag) (by unfold casD; simp?! only []) (by omega) ⟨.kd kvs, none, .inl rfl, rfl⟩ (fun r ⟨_, _, _, er⟩ => by rw [er]; rfl) (by
      rintro c hc r ⟨o', x4, h1, rfl⟩
      obtain ⟨o2, h2, et⟩ := shaken_any (L := L) (N := N) hN (hS c hc) hk h1
      refine ⟨[some (.sh (casD L)), some (.sh (.tuple (N.map slD))), some o', none, some (.sh (csD c)), none], [some (.sh (casD L)), some (.sh (.tuple (N.map slD))), some o2, none, some (.sh (csD c)), none], rfl, et, fun _ => ⟨o2, _, h2, rfl⟩, fun _ => ⟨[some (.sh (casD L)), some (.sh (.tuple (N.map slD))), some o2, none, some (.sh (csD c)), none], ?_, o2, _, h2, rfl⟩⟩
      have g0 := gIx_cs0 c
      unfold m_shaken_e2
      simp?! only [g0])
  have em : (L.filter fun c => (sl c).any (turnB L N)).map (fun c => tiD c.tag) = (turnedT L N).map tiD := by unfold turnedT; rw [List.map_map]; rfl
  rw [em] at e
  have e : mComp ((mName 0).bind seqItems) (tName 4) m_shaken_t3 m_shaken_e2 [4] [some (.sh (casD L)), some (.sh (.tuple (N.map slD))), some (.kd kvs), none, none, none] = .ok (.ol ((turnedT L N).map tiD)) [some (.sh (casD L)), some (.sh (.tuple (N.map slD))), some o', none, none, none] := e
  have tl : (turnedT L N).length ≤ L.length := by unfold turnedT; rw [List.length_map]; exact List.length_filter_le _ _
  obtain ⟨R, I, er⟩ := resting41 (L := L) (S := turnedT L N) hS (tags_nd hL) (by omega) (by omega)
  have rl := I.len
  have ad : aAdd (.list ((turnedT L N).map tiD)) (.list (R.map tiD)) = some (.ol ((turnedT L N ++ R).map tiD)) := by
    rw [List.map_append]
    exact aAdd_ll (by rw [List.length_map, List.length_map]; omega)
  have gk := gKeys_ti (l := turnedT L N ++ R) (by rw [List.length_append]; omega)
  have go := gOnce_ti (l := turnedT L N ++ R) (by rw [List.length_append]; omega)
  refine ⟨R, I, ?_⟩
  unfold fn_shaken m_shaken
  rcases h1 with rfl | rfl
  · simp?! only [ek, e, er, ad, v_sset, gk, go, gTup_l]
  · simp?! only [ek, e, er, ad, v_sset, gk, go, gTup_l]
theorem own_shaken41 (hL : Lined [] L) (hF : ∀ c ∈ L, CsF c) (hS : ∀ c ∈ L, SlOk c) (hl : L.length ≤ 14) (hN : ∀ s ∈ N, SlF s) (nl : N.length ≤ 100) {R : List Ti} (hR : RInv L (turnedT L N) R []) :
    fn_own_shaken [some (.sh (casD L)), some (.sh (.tuple (N.map slD)))] = .ok (.sh (.tuple (setT (turnedT L N ++ R)))) [none, none] := by
  have z := sizeLine_eq
  have ec : mComp ((mName 0).bind seqItems) (tName 3) m_own_shaken_t4 m_own_shaken_e3 [3] [some (.sh (casD L)), some (.sh (.tuple (N.map slD))), none, none, none] =
      .ok (.ol ((L.filter fun c => (sl c).any (turnB L N)).map fun c => tiD c.tag)) [some (.sh (casD L)), some (.sh (.tuple (N.map slD))), none, none, none] := by
    refine comp_filt (f := csD) (fun c => (sl c).any (turnB L N)) (fun c => tiD c.tag) (by unfold casD; simp?! only []) (by omega) fun c hc => ⟨[some (.sh (casD L)), some (.sh (.tuple (N.map slD))), none, some (.sh (csD c)), none], [some (.sh (casD L)), some (.sh (.tuple (N.map slD))), none, some (.sh (csD c)), none], rfl, ?_, rfl, fun _ => ⟨[some (.sh (casD L)), some (.sh (.tuple (N.map slD))), none, some (.sh (csD c)), none], ?_, rfl⟩⟩
    · have g4 := gIx_cs4 (hS c hc)
      obtain ⟨_, l5, hs⟩ := sl_of (hS c hc)
      have e2 : mComp ((m2 gIx (mSlot 3) ((M.ret (.int 4)).bind fun d => M.ret (.dat d))).bind seqItems) (tName 4) m_own_shaken_t2 m_own_shaken_e1 [4] [some (.sh (casD L)), some (.sh (.tuple (N.map slD))), none, some (.sh (csD c)), none] =
          .ok (.ol (((sl c).filter (turnB L N)).map slD)) [some (.sh (casD L)), some (.sh (.tuple (N.map slD))), none, some (.sh (csD c)), none] := by
        refine comp_filt (f := slD) (turnB L N) slD (by simp?! only [g4]) (by omega) fun s hs1 => ⟨[some (.sh (casD L)), some (.sh (.tuple (N.map slD))), none, some (.sh (csD c)), some (.sh (slD s))], [some (.sh (casD L)), some (.sh (.tuple (N.map slD))), none, some (.sh (csD c)), some (.sh (slD s))], rfl, ?_, rfl, fun _ => ⟨_, rfl, rfl⟩⟩
        have et := own_turned41 (L := L) (N := N) hL hF hl hN nl (hs s hs1)
        unfold m_own_shaken_t2
        simp?! only [et]
      have nn := ne_list_nil (sls_small (hS c hc) (turnB L N))
      have eh : (!(((sl c).filter (turnB L N)).map slD).isEmpty) = (sl c).any (turnB L N) := by
        rw [Bool.eq_iff_iff, Bool.not_eq_true', List.any_eq_true]
        constructor
        · intro h
          cases q : (sl c).filter (turnB L N) with
          | nil => rw [q] at h; cases h
          | cons s r =>
            have : s ∈ (sl c).filter (turnB L N) := by rw [q]; exact List.mem_cons_self
            exact ⟨s, (List.mem_filter.mp this).1, (List.mem_filter.mp this).2⟩
        · rintro ⟨s, h1, h2⟩
          have : s ∈ (sl c).filter (turnB L N) := List.mem_filter.mpr ⟨h1, h2⟩
          cases q : (sl c).filter (turnB L N) with
          | nil => rw [q] at this; cases this
          | cons s r => rfl
      rw [eh] at nn
      have l0 : lstG [] = some (.ol []) := lstG_ok (by decide)
      unfold m_own_shaken_t4
      simp?! only [e2, l0, nn]
    · have g0 := gIx_cs0 c
      unfold m_own_shaken_e3
      simp?! only [g0]
  have em : (L.filter fun c => (sl c).any (turnB L N)).map (fun c => tiD c.tag) = (turnedT L N).map tiD := by unfold turnedT; rw [List.map_map]; rfl
  rw [em] at ec
  have tl : (turnedT L N).length ≤ L.length := by unfold turnedT; rw [List.length_map]; exact List.length_filter_le _ _
  have er := rests41 (L := L) (S := turnedT L N) hS (tags_nd hL) (by omega) (by omega) hR
  have rl := hR.len
  obtain ⟨R2, e2, m2', l2'⟩ := sort_ti R
  rw [e2] at er
  have gL : gList [.tuple (R2.map tiD)] = some (.ol (R2.map tiD)) := gList_t _
  have ad : aAdd (.list ((turnedT L N).map tiD)) (.list (R2.map tiD)) = some (.ol ((turnedT L N ++ R2).map tiD)) := by
    rw [List.map_append]
    exact aAdd_ll (by rw [List.length_map, List.length_map]; omega)
  have gk := gKeys_ti (l := turnedT L N ++ R2) (by rw [List.length_append]; omega)
  have go := gOnce_ti (l := turnedT L N ++ R2) (by rw [List.length_append]; omega)
  have es : setT (turnedT L N ++ R2) = setT (turnedT L N ++ R) := setT_eq fun x => by
    rw [List.mem_append, List.mem_append, m2']
  rw [es] at go
  unfold fn_own_shaken m_own_shaken
  simp?! only [ec, er, gL, ad, v_sset, gk, go, gTup_l]
end
end Lw
namespace Lw
open PySem L2 PySem.W PySem.SeqAt Eg
theorem rumour_b1 {xs : List PyData} {n : Nat} {P : List Ti} {S : List Sl} {a1 a4 a5 : Option OD} (hf : FeedAt xs n) (hn : n < 600000) (hP : 0 < P.length) (hP2 : P.length < 100) (hS : S.length < 100) (tP : ∀ t ∈ P, Th 40 60 1 (tiD t)) :
    ∃ (s : Sl) (xs' : List PyData) (b5 : Option OD), SlF s ∧ FeedAt xs' (n + 9) ∧
      m_rumour_b1 [some (.ol xs), a1, some (.ol (S.map slD)), some (.ol (P.map tiD)), a4, a5] = .ok .nx [some (.ol xs'), a1, some (.ol ((S ++ [s]).map slD)), some (.ol (P.map tiD)), a4, b5] := by
  have z := sizeLine_eq
  obtain ⟨v, xs1, v0, v1, f1, e1⟩ := drawX (many := (P.length : Int)) hf (by omega) (by omega) (by omega)
  have glen : gLen [.list (P.map tiD)] = some (.sh (.int (P.length : Int))) := by rw [gLen_any, List.length_map]
  obtain ⟨d, hd', ei⟩ := gIx_mem (l := P.map tiD) v0 (by rw [List.length_map]; exact v1)
  obtain ⟨t, ht, rfl⟩ := List.mem_map.mp hd'
  obtain ⟨v2, xs2, v20, v21, f2, e2⟩ := drawX (many := 2) f1 (by omega) (by decide) (by decide)
  obtain ⟨G, xs3, g1, g2, g3, f3, e3⟩ := some37 (F := folk37) (D := .list (folk37.map hd)) (v := 1 + v2) f2 (by omega) rfl (by decide) (by omega) (by omega)
  have fl : folk37.length = 6 := rfl
  obtain ⟨v4, xs4, v40, v41, f4, e4⟩ := drawX (many := 2) f3 (by omega) (by decide) (by decide)
  obtain ⟨w, hw, ew⟩ := yn_at v40 v41
  have efo := folkd37
  have l2 : ∀ a b : PyData, lstG [a, b] = some (.ol [a, b]) := fun _ _ => if_pos (show 2 ≤ sizeLine by decide)
  have t3 : ∀ a b c : PyData, tupG [a, b, c] = some (.tuple [a, b, c]) := fun _ _ _ => if_pos (show 3 ≤ sizeLine by decide)
  have sz : (S.map slD).length < sizeLine := by rw [List.length_map]; omega
  refine ⟨⟨t, G, w⟩, xs4, some (.sh (tiD t)), ⟨tP t ht, g1, by show G.length ≤ 3; omega, hw⟩, f4.mono (by omega), ?_⟩
  rw [List.map_append]
  show _ = Res.ok Out.nx [some (.ol xs4), a1, some (.ol (S.map slD ++ [PyData.tuple [tiD t, .tuple (G.map hd), w]])), some (.ol (P.map tiD)), a4, some (.sh (tiD t))]
  unfold m_rumour_b1
  simp?! only [glen, e1, ei, efo, e2, e3, e4, ew, l2, t3, sz, v_pick, v_pk0, v_pkl, v_pkr, List.getD_cons_zero]
theorem rumour41 {xs : List PyData} {n : Nat} {T : List Ti} (hf : FeedAt xs n) (hn : n < 500000) (hT : T.length ≤ 13) (tf : ∀ t ∈ T, Th 40 60 1 (tiD t)) :
    ∃ (N : List Sl) (xs' : List PyData), N.length ≤ 4 ∧ (∀ s ∈ N, SlF s) ∧ FeedAt xs' (n + 37) ∧ fn_rumour [some (.ol xs), some (.sh (.list (T.map tiD)))] = .ok (.sh (.tuple (N.map slD))) [some (.ol xs'), none] := by
  have z := sizeLine_eq
  obtain ⟨v, xs1, v0, v1, f1, e1⟩ := drawX (many := 5) hf (by omega) (by decide) (by decide)
  have rg := rng1_natX (j := v) v0 (by omega)
  obtain ⟨R, eR⟩ : ∃ R : List Ti, R = T ++ [(Str.ofString "ash", 0, 0), (Str.ofString "oak", 7, 1), (Str.ofString "elm", 9, 0)] := ⟨_, rfl⟩
  have rl : R.length = T.length + 3 := by rw [eR, List.length_append]; rfl
  have rt : ∀ t ∈ R, Th 40 60 1 (tiD t) := fun t ht => by
    rw [eR] at ht
    rcases List.mem_append.mp ht with q | q
    · exact tf t q
    · simp only [List.mem_cons, List.not_mem_nil, or_false] at q
      rcases q with rfl | rfl | rfl <;> exact Th.ofB (by decide +kernel) (by decide)
  have ad : aAdd (.list (T.map tiD)) (.list [.tuple [.str (Str.ofString "ash"), .int 0, .int 0], .tuple [.str (Str.ofString "oak"), .int 7, .int 1], .tuple [.str (Str.ofString "elm"), .int 9, .int 0]]) = some (.ol (R.map tiD)) := by
    rw [eR, List.map_append]
    refine aAdd_ll ?_
    rw [List.length_map]
    show _ + 3 ≤ _
    omega
  obtain ⟨ρ', e2, xs2, S, b4, b5, rfl, hS, sl, f2⟩ := loop_inv (f := fun i : Nat => PyData.int (i : Int)) (t := tName 4) (b := m_rumour_b1)
    (fun rest ρ => ∃ (xs : List PyData) (S : List Sl) (b4 b5 : Option OD), ρ = [some (.ol xs), some (.sh (.list (T.map tiD))), some (.ol (S.map slD)), some (.ol (R.map tiD)), b4, b5] ∧ (∀ s ∈ S, SlF s) ∧ S.length + rest.length = v.toNat ∧ FeedAt xs (n + 1 + 9 * S.length)) (by
      rintro i rest ρ ⟨xs, S, b4, b5, rfl, hS, sl, f⟩
      rw [List.length_cons] at sl
      obtain ⟨s, xs', b5', h1, h4, e⟩ := rumour_b1 (P := R) (S := S) (a1 := some (.sh (.list (T.map tiD)))) (a4 := some (.sh (.int (i : Int)))) (a5 := b5) f (by omega) (by omega) (by omega) (by omega) rt
      refine ⟨_, _, rfl, .inl e, xs', S ++ [s], _, b5', rfl, fun x hx => ?_, by rw [List.length_append, List.length_singleton]; omega, by rw [List.length_append, List.length_singleton]; exact h4.mono (by omega)⟩
      rcases List.mem_append.mp hx with q | q
      · exact hS x q
      · rw [List.mem_singleton.mp q]; exact h1) (List.range v.toNat) [some (.ol xs1), some (.sh (.list (T.map tiD))), some (.ol []), some (.ol (R.map tiD)), none, none]
    ⟨xs1, [], none, none, rfl, (fun s h => nomatch h), by simp, by simpa using f1⟩
  rw [List.length_nil] at sl
  have l0 : lstG [] = some (.ol []) := lstG_ok (by decide)
  have l3 : ∀ a b c : PyData, lstG [a, b, c] = some (.ol [a, b, c]) := fun _ _ _ => if_pos (show 3 ≤ sizeLine by decide)
  have t3 : ∀ a b c : PyData, tupG [a, b, c] = some (.tuple [a, b, c]) := fun _ _ _ => if_pos (show 3 ≤ sizeLine by decide)
  refine ⟨S, xs2, by omega, hS, f2.mono (by omega), ?_⟩
  unfold fn_rumour m_rumour
  simp?! only [l3, t3, ad, l0, e1, rg, e2, gTup_l]
theorem sl_th2 {s : Sl} (h : SlF s) : Th 40 230 3 (slD s) := by
  have a : Th 40 60 2 (tiD s.t) := h.t.mono (by omega) (by omega)
  have b : Th 40 129 2 (.tuple (s.G.map hd)) := (hds37_th h.G).mono (by have := h.l; omega) (by omega)
  have c : Th 40 20 2 s.w := (word_th h.w).mono (by omega) (by omega)
  exact (Ths.cons a (Ths.cons b (Ths.cons c (Ths.nil (n := 0) (by decide))))).tup.mono (by omega) (by omega)
theorem made_loop {l : List Hand} {a0 a1 a2 a3 a4 a7 a8 : Option OD} : ∀ (S : List Sl) (l : List Hand) (a6 : Option OD), (∀ s ∈ S, SlF s) → l.length + 3 * S.length ≤ 60 → (∀ h ∈ l, h ∈ folk37) →
    ∃ (m : List Hand) (b6 : Option OD), (∀ h ∈ m, h ∈ folk37) ∧ m.length ≤ l.length + 3 * S.length ∧ sLoop (tName 6) m_made_b1 (S.map slD) [a0, a1, a2, a3, a4, some (.ol (l.map hd)), a6, a7, a8] = .ok .nx [a0, a1, a2, a3, a4, some (.ol (m.map hd)), b6, a7, a8]
  | [], l, a6, _, _, h => ⟨l, a6, h, by simp, rfl⟩
  | s :: S, l, a6, hS, hl, hm => by
    have z := sizeLine_eq
    have hs := hS s List.mem_cons_self
    have sl := hs.l
    rw [List.length_cons] at hl
    obtain ⟨m, b6, h1, h2, e⟩ := made_loop (l := l) (a0 := a0) (a1 := a1) (a2 := a2) (a3 := a3) (a4 := a4) (a7 := a7) (a8 := a8) S (l ++ s.G) (some (.sh (slD s))) (fun d hd' => hS d (List.mem_cons_of_mem _ hd')) (by rw [List.length_append]; omega) fun h hh => by
      rcases List.mem_append.mp hh with q | q
      · exact hm h q
      · exact hs.G h q
    refine ⟨m, b6, h1, by rw [List.length_append] at h2; rw [List.length_cons]; omega, ?_⟩
    have tn : ∀ {a0 a1 a2 a3 a4 a5 a6 a7 a8 : Option OD} {d : PyData}, tName 6 d [a0, a1, a2, a3, a4, a5, a6, a7, a8] = some [a0, a1, a2, a3, a4, a5, some (.sh d), a7, a8] := rfl
    have g1 : gIx (slD s) (.int 1) = some (.tuple (s.G.map hd)) := rfl
    have gl := gList_t (s.G.map hd)
    have sz : (l.map hd).length + (s.G.map hd).length ≤ sizeLine := by rw [List.length_map, List.length_map]; omega
    have eb : m_made_b1 [a0, a1, a2, a3, a4, some (.ol (l.map hd)), some (.sh (slD s)), a7, a8] = .ok .nx [a0, a1, a2, a3, a4, some (.ol ((l ++ s.G).map hd)), some (.sh (slD s)), a7, a8] := by
      rw [List.map_append]
      unfold m_made_b1
      simp?! only [g1, gl, v_ext, v_exto, sz]
    rw [← e, List.map_cons]
    simp?! only [v_lp1, tn, eb, v_lpO, v_lpn]
theorem made_ok {t : Ti} {G : List Hand} {S : List Sl} {D w : PyData} (hD : D = .list (S.map slD) ∨ (D = .tuple [] ∧ S = [])) (hG : ∀ h ∈ G, h ∈ folk37) (gl : G.length ≤ 2) (hS : ∀ s ∈ S, SlF s) (sl : S.length ≤ 5) (hw : w = ysD ∨ w = noD) :
    ∃ c : Cs, c.tag = t ∧ c.under = none ∧ CsF c ∧ SlOk c ∧ c.vs.length ≤ 6 ∧ fn_made [some (.sh (tiD t)), some (.sh .none), some (.sh (.tuple (G.map hd))), some (.sh D), some (.sh w)] = .ok (.sh (csD c)) [none, none, none, none, none] := by
  have z := sizeLine_eq
  obtain ⟨m, b6, m1, ml, el⟩ := made_loop (l := G) (a0 := some (.sh (tiD t))) (a1 := some (.sh .none)) (a2 := some (.sh (.tuple (G.map hd)))) (a3 := some (.sh D)) (a4 := some (.sh w)) (a7 := none) (a8 := none) S G none hS (by omega) hG
  obtain ⟨W, eW, w1, w2⟩ := heads_hd m1
  have gL := gList_t (G.map hd)
  have t2 : ∀ a b : PyData, tupG [a, b] = some (.tuple [a, b]) := fun _ _ => if_pos (show 2 ≤ sizeLine by decide)
  have t7 : ∀ a b c d e f g : PyData, tupG [a, b, c, d, e, f, g] = some (.tuple [a, b, c, d, e, f, g]) := fun _ _ _ _ _ _ _ => if_pos (show 7 ≤ sizeLine by decide)
  have gk : gKeys [.list (m.map hd)] = some (m.map hd) := gKeys_hd (l := m) (by omega)
  have go : gOnce (m.map hd) = some (.ol (W.map hd)) := by
    rw [gOnce_hd (l := m) (by omega)]
    exact congrArg (fun x => some (OD.ol x)) eW
  obtain ⟨S2, s2m, s2l, gs⟩ : ∃ S2 : List Sl, (∀ s ∈ S2, s ∈ S) ∧ S2.length = S.length ∧ gSorted [D] = some (.ol (S2.map slD)) := by
    rcases hD with rfl | ⟨rfl, rfl⟩
    · exact sorted_sl hS (by omega)
    · refine ⟨[], (fun s h => nomatch h), rfl, ?_⟩
      simp only [gSorted]
      rw [if_pos (by decide)]
      show some (OD.ol (sortD [])) = _
      unfold sortD
      rw [List.mergeSort_nil]
      rfl
  have sq : seqItems D = M.ret (S.map slD) := by
    rcases hD with rfl | ⟨rfl, rfl⟩ <;> rfl
  have ec : mComp ((mName 2).bind seqItems) (tName 8) (M.ret true) m_made_e2 [8] [some (.sh (tiD t)), some (.sh .none), some (.sh (.tuple (G.map hd))), some (.sh D), some (.sh w), some (.ol (m.map hd)), b6, none, none] =
      .ok (.ol (G.map fun h => .tuple [hd h, w])) [some (.sh (tiD t)), some (.sh .none), some (.sh (.tuple (G.map hd))), some (.sh D), some (.sh w), some (.ol (m.map hd)), b6, none, none] := by
    refine comp_pure (f := hd) (fun h => .tuple [hd h, w]) (by simp?! only []) (by omega) fun h _ => ⟨[some (.sh (tiD t)), some (.sh .none), some (.sh (.tuple (G.map hd))), some (.sh D), some (.sh w), some (.ol (m.map hd)), b6, none, some (.sh (hd h))], [some (.sh (tiD t)), some (.sh .none), some (.sh (.tuple (G.map hd))), some (.sh D), some (.sh w), some (.ol (m.map hd)), b6, none, some (.sh (hd h))], rfl, ?_, rfl⟩
    unfold m_made_e2
    simp?! only [t2]
  have hen : w ∈ ends37 := by rcases hw with rfl | rfl <;> simp [ends37, ysD, noD]
  refine ⟨⟨t, none, .tuple (G.map hd), W, .tuple (S2.map slD), .tuple (G.map fun h => .tuple [hd h, w]), w⟩, rfl, rfl, ⟨?_, ?_, ?_, w1, by show W.length ≤ 20; omega, hen⟩, ⟨S2, rfl, by omega, fun s hs => hS s (s2m s hs)⟩, w2, ?_⟩
  · exact (hds37_th hG).mono (by omega) (by omega)
  · have := Ths.all (q := 40) (n := 230) (k := 3) (by decide) (ds := S2.map slD) fun d hd' => by
      obtain ⟨s, hs, rfl⟩ := List.mem_map.mp hd'
      exact sl_th2 (hS s (s2m s hs))
    rw [List.length_map] at this
    exact this.tup.mono (by omega) (by omega)
  · have := Ths.all (q := 40) (n := 80) (k := 2) (by decide) (ds := G.map fun h => .tuple [hd h, w]) fun d hd' => by
      obtain ⟨h, hh, rfl⟩ := List.mem_map.mp hd'
      exact vote_th (hG h hh) hw
    rw [List.length_map] at this
    exact this.tup.mono (by omega) (by omega)
  · unfold fn_made m_made
    simp?! only [gL, sq, el, ec, gTup_l, v_sset, gk, go, gs, t7]
    rfl
end Lw
namespace Lw
open PySem L2 PySem.W PySem.SeqAt Eg
def oneH : List Hand := [(Str.ofString "elm", Str.ofString "a")]
def mores : List PyData := [.int 0, .int 1, .int 2, .int 3]
theorem el_th {j : Int} (h0 : 0 ≤ j) (h1 : j < 90) : Th 40 60 1 (tiD (el11 j)) := by
  have e : Th 40 20 0 (.str (Str.ofString "elm")) := Th.ofB (show thB 40 20 0 (.str (Str.ofString "elm")) = true by decide +kernel) (by decide)
  have h2 : Th 40 4 0 (.int 0) := Th.int (m := 40) (n := 3) (by omega) (by decide) (by decide)
  have h3 : Th 40 4 0 (.int j) := Th.int (m := 40) (n := 3) (by omega) (by decide) (by decide)
  exact (Ths.cons e (Ths.cons h2 (Ths.cons h3 (Ths.nil (n := 0) (by decide))))).tup.mono (by omega) (by omega)
def heardOf (k : Int) : List Int := if k = 11 then [k - 1, 0, 1, 2, 3] else [k - 1]
def slOf (k j : Int) : Sl := ⟨el11 j, oneH, if k = 1 then noD else ysD⟩
theorem heard_b {k : Int} (h1 : 1 ≤ k) (h2 : k ≤ 11) : ∀ j ∈ heardOf k, 0 ≤ j ∧ j < 90 := by
  intro j hj
  unfold heardOf at hj
  split at hj
  · simp only [List.mem_cons, List.not_mem_nil, or_false] at hj
    rcases hj with rfl | rfl | rfl | rfl | rfl <;> omega
  · rw [List.mem_singleton.mp hj]; omega
theorem slOf_f {k j : Int} (h0 : 0 ≤ j) (h1 : j < 90) : SlF (slOf k j) := by
  refine ⟨el_th h0 h1, ?_, by show oneH.length ≤ 3; decide, ?_⟩
  · show ∀ h ∈ oneH, h ∈ folk37
    decide +kernel
  · show (if k = 1 then noD else ysD) = ysD ∨ (if k = 1 then noD else ysD) = noD
    split
    · exact .inr rfl
    · exact .inl rfl
def two2 : List Hand := [(Str.ofString "elm", Str.ofString "bo"), (Str.ofString "elm", Str.ofString "z")]
def two1 : List Hand := [(Str.ofString "elm", Str.ofString "a"), (Str.ofString "elm", Str.ofString "bo")]
def longH : M OD := m2 aAdd (((mFix lstG (mCons ((m2 gSub (mSlot 3) ((M.ret (.int 1)).bind fun d => M.ret (.dat d))).bind fun d => M.ret (.dat d)) (mNil))).bind fz).bind fun d => M.ret (.dat d)) (((m2 aMulT (mSlot 0) (((mL gInt (mCons ((m2 gEq (mSlot 3) ((M.ret (.int 11)).bind fun d => M.ret (.dat d))).bind fun d => M.ret (.dat d)) (mNil))).bind fz).bind fun d => M.ret (.dat d))).bind fz).bind fun d => M.ret (.dat d))
theorem long_eq : m_long_b2 = sSeq (sSet 4 longH) (sSeq (sSet 5 (mComp ((mName 4).bind seqItems) (tName 6) (M.ret true) (m_long_e1) [6])) (sExpr (mOl 2 (mAppend 2 ((mCall fn_made (mCons ((mFix tupG (mCons ((M.ret (.str "elm")).bind fun d => M.ret (.dat d)) (mCons ((M.ret (.int 0)).bind fun d => M.ret (.dat d)) (mCons ((mName 3).bind fun d => M.ret (.dat d)) (mNil))))).bind fun d => M.ret (.dat d)) (mCons ((M.ret .none).bind fun d => M.ret (.dat d)) (mCons ((mFix tupG (mCons ((mFix tupG (mCons ((M.ret (.str "elm")).bind fun d => M.ret (.dat d)) (mCons ((M.ret (.str "bo")).bind fun d => M.ret (.dat d)) (mNil)))).bind fun d => M.ret (.dat d)) (mCons ((mFix tupG (mCons ((M.ret (.str "elm")).bind fun d => M.ret (.dat d)) (mCons ((M.ret (.str "z")).bind fun d => M.ret (.dat d)) (mNil)))).bind fun d => M.ret (.dat d)) (mNil)))).bind fun d => M.ret (.dat d)) (mCons ((mName 5).bind fun d => M.ret (.dat d)) (mCons ((M.ret (.str "yes")).bind fun d => M.ret (.dat d)) (mNil))))))).bind fz))))) := rfl
theorem long_b2 {P : List Cs} {k : Int} {a4 a5 : Option OD} (hP : P.length < 50) (h1 : 1 ≤ k) (h2 : k ≤ 11) :
    ∃ (c : Cs) (b4 b5 : Option OD), c.tag = el11 k ∧ c.under = none ∧ CsF c ∧ SlOk c ∧ c.vs.length ≤ 6 ∧
      m_long_b2 [some (.sh (.list mores)), some (.sh noD), some (.ol (P.map csD)), some (.sh (.int k)), a4, a5, none] = .ok .nx [some (.sh (.list mores)), some (.sh noD), some (.ol ((P ++ [c]).map csD)), some (.sh (.int k)), b4, b5, none] := by
  have z := sizeLine_eq
  have hb := heard_b h1 h2
  have hl : (heardOf k).length ≤ 5 := by unfold heardOf; split <;> simp
  have t3 : ∀ a b c : PyData, tupG [a, b, c] = some (.tuple [a, b, c]) := fun _ _ _ => if_pos (show 3 ≤ sizeLine by decide)
  have t2 : ∀ a b : PyData, tupG [a, b] = some (.tuple [a, b]) := fun _ _ => if_pos (show 2 ≤ sizeLine by decide)
  have t1 : ∀ a : PyData, tupG [a] = some (.tuple [a]) := fun _ => if_pos (show 1 ≤ sizeLine by decide)
  have l1 : ∀ a : PyData, lstG [a] = some (.ol [a]) := fun _ => if_pos (show 1 ≤ sizeLine by decide)
  -- the list of those heard of
  have eh : ∀ {a4 : Option OD}, longH [some (.sh (.list mores)), some (.sh noD), some (.ol (P.map csD)), some (.sh (.int k)), a4, a5, none] =
      .ok (.ol ((heardOf k).map .int)) [some (.sh (.list mores)), some (.sh noD), some (.ol (P.map csD)), some (.sh (.int k)), a4, a5, none] := fun {a4} => by
    unfold longH
    by_cases q : k = 11
    · subst q
      have gi : gInt [.bool true] = some (.sh (.int 1)) := rfl
      have am : aMulT (.list mores) (.int 1) = some (.ol mores) := rfl
      have ad : aAdd (.list [.int (11 - 1)]) (.list mores) = some (.ol ((heardOf 11).map .int)) := by
        rw [show (heardOf 11).map PyData.int = [.int (11 - 1)] ++ mores from rfl]
        exact aAdd_ll (by show 1 + 4 ≤ _; omega)
      simp?! only [l1, gi, am, ad]
    · have gi : gInt [.bool false] = some (.sh (.int 0)) := rfl
      have am : aMulT (.list mores) (.int 0) = some (.ol []) := rfl
      have eq' : heardOf k = [k - 1] := if_neg q
      have ad : aAdd (.list [.int (k - 1)]) (.list []) = some (.ol ((heardOf k).map .int)) := by
        rw [eq']
        exact aAdd_ll (by show 1 + 0 ≤ _; omega)
      simp?! only [l1, q, gi, am, ad]
  have ec : ∀ {a5 : Option OD}, mComp ((mName 4).bind seqItems) (tName 6) (M.ret true) m_long_e1 [6] [some (.sh (.list mores)), some (.sh noD), some (.ol (P.map csD)), some (.sh (.int k)), some (.ol ((heardOf k).map .int)), a5, none] =
      .ok (.ol ((heardOf k).map fun j => slD (slOf k j))) [some (.sh (.list mores)), some (.sh noD), some (.ol (P.map csD)), some (.sh (.int k)), some (.sh (.list ((heardOf k).map .int))), a5, none] := fun {a5} => by
    refine comp_pure (f := PyData.int) (fun j => slD (slOf k j)) (by simp?! only []) (by omega) fun j _ => ⟨[some (.sh (.list mores)), some (.sh noD), some (.ol (P.map csD)), some (.sh (.int k)), some (.sh (.list ((heardOf k).map .int))), a5, some (.sh (.int j))], [some (.sh (.list mores)), some (.sh noD), some (.ol (P.map csD)), some (.sh (.int k)), some (.sh (.list ((heardOf k).map .int))), a5, some (.sh (.int j))], rfl, ?_, rfl⟩
    by_cases q : k = 1
    · have e : slD (slOf k j) = .tuple [.tuple [.str (Str.ofString "elm"), .int 0, .int j], .tuple [.tuple [.str (Str.ofString "elm"), .str (Str.ofString "a")]], noD] := by
        unfold slOf; rw [if_pos q]; rfl
      rw [e]
      subst q
      unfold m_long_e1
      simp?! only [t3, t2, t1]
    · have e : slD (slOf k j) = .tuple [.tuple [.str (Str.ofString "elm"), .int 0, .int j], .tuple [.tuple [.str (Str.ofString "elm"), .str (Str.ofString "a")]], .str (Str.ofString "yes")] := by
        unfold slOf; rw [if_neg q]; rfl
      rw [e]
      unfold m_long_e1
      simp?! only [t3, t2, t1, q]
  have em : ((heardOf k).map fun j => slD (slOf k j)) = ((heardOf k).map (slOf k)).map slD := by rw [List.map_map]; rfl
  obtain ⟨c, c1, c2, c3, c4, c5, ecm⟩ := made_ok (t := el11 k) (G := two2) (S := (heardOf k).map (slOf k)) (D := .list (((heardOf k).map (slOf k)).map slD)) (w := ysD) (.inl rfl) (by decide +kernel) (by decide) (fun s hs => by
    obtain ⟨j, hj, rfl⟩ := List.mem_map.mp hs
    exact slOf_f (hb j hj).1 (hb j hj).2) (by rw [List.length_map]; exact hl) (.inl rfl)
  obtain ⟨SD, eSD⟩ : ∃ SD : List PyData, SD = ((heardOf k).map fun j => slD (slOf k j)) := ⟨_, rfl⟩
  rw [← em, ← eSD] at ecm
  rw [← eSD] at ec
  have ecm : fn_made [some (.sh (.tuple [.str (Str.ofString "elm"), .int 0, .int k])), some (.sh .none), some (.sh (.tuple [.tuple [.str (Str.ofString "elm"), .str (Str.ofString "bo")], .tuple [.str (Str.ofString "elm"), .str (Str.ofString "z")]])), some (.sh (.list SD)), some (.sh (.str (Str.ofString "yes")))] = .ok (.sh (csD c)) [none, none, none, none, none] := ecm
  have sz : (P.map csD).length < sizeLine := by rw [List.length_map]; omega
  refine ⟨c, some (.sh (.list ((heardOf k).map .int))), some (.sh (.list SD)), c1, c2, c3, c4, c5, ?_⟩
  rw [List.map_append]
  show _ = Res.ok Out.nx [some (.sh (.list mores)), some (.sh noD), some (.ol (P.map csD ++ [csD c])), some (.sh (.int k)), some (.sh (.list ((heardOf k).map .int))), some (.sh (.list SD)), none]
  rw [long_eq]
  simp?! only [eh, ec, t3, t2, ecm, sz]
end Lw
namespace Lw
open PySem L2 PySem.W PySem.SeqAt Eg
def elT (i : Nat) : Ti := el11 (i : Int)
theorem el_tags : ((List.range 12).map elT).Nodup ∧ ∀ t ∈ (List.range 12).map elT, thB 40 60 1 (tiD t) = true ∧ t ≠ (Str.ofString "ash", 0, 0) ∧ t ≠ (Str.ofString "elm", 9, 9) := by decide +kernel
theorem good_bare {L : List Cs} (hT : L.map (·.tag) = (List.range 12).map elT) (hu : ∀ c ∈ L, c.under = none) (hF : ∀ c ∈ L, CsF c) (hv : ∀ c ∈ L, c.vs.length ≤ 6) : Good37 L := by
  have ll : L.length = 12 := by have := congrArg List.length hT; rw [List.length_map, List.length_map, List.length_range] at this; exact this
  have nd := el_tags.1
  rw [← hT] at nd
  have lin : Lined [] L := Lined.of fun A c B e => by
    refine ⟨fun hm => ?_, fun u h => ?_⟩
    · rw [List.nil_append] at hm
      rw [e, List.map_append, List.map_cons] at nd
      exact (List.nodup_append.mp nd).2.2 c.tag hm c.tag List.mem_cons_self rfl
    · rw [hu c (by rw [e]; exact List.mem_append.mpr (.inr List.mem_cons_self))] at h; cases h
  refine ⟨lin, by omega, hF, fun c hc => ?_, fun c hc => ?_⟩
  · obtain ⟨h1, h2, h3⟩ := el_tags.2 c.tag (by rw [← hT]; exact List.mem_map.mpr ⟨c, hc, rfl⟩)
    exact ⟨Th.ofB h1 (by decide), h2, h3⟩
  · obtain ⟨A, B, e⟩ := List.append_of_mem hc
    have hf : findS L c.tag = some c := by rw [e]; exact (e ▸ lin).find
    refine ⟨[c], .cons hf (by rw [hu c hc]; exact .nil), by rw [List.length_singleton]; omega, ?_⟩
    show (c.vs ++ voicesS []).length ≤ 60
    have := hv c hc
    rw [List.length_append]
    show c.vs.length + 0 ≤ 60
    omega
theorem long41 : ∃ L, Good37 L ∧ (∀ c ∈ L, SlOk c) ∧ fn_long [some (.sh (.list mores)), some (.sh noD)] = .ok (.sh (casD L)) [none, none] := by
  have z := sizeLine_eq
  have t3 : ∀ a b c : PyData, tupG [a, b, c] = some (.tuple [a, b, c]) := fun _ _ _ => if_pos (show 3 ≤ sizeLine by decide)
  have t2 : ∀ a b : PyData, tupG [a, b] = some (.tuple [a, b]) := fun _ _ => if_pos (show 2 ≤ sizeLine by decide)
  have t0 : tupG [] = some (.tuple []) := if_pos (Nat.zero_le _)
  have l1 : ∀ a : PyData, lstG [a] = some (.ol [a]) := fun _ => if_pos (show 1 ≤ sizeLine by decide)
  obtain ⟨c0, d1, d2, d3, d4, d5, e0⟩ := made_ok (t := el11 0) (G := two1) (S := []) (D := .tuple []) (w := ysD) (.inr ⟨rfl, rfl⟩) (by decide +kernel) (by decide) (fun s h => nomatch h) (by decide) (.inl rfl)
  have e0 : fn_made [some (.sh (.tuple [.str (Str.ofString "elm"), .int 0, .int 0])), some (.sh .none), some (.sh (.tuple [.tuple [.str (Str.ofString "elm"), .str (Str.ofString "a")], .tuple [.str (Str.ofString "elm"), .str (Str.ofString "bo")]])), some (.sh (.tuple [])), some (.sh (.str (Str.ofString "yes")))] = .ok (.sh (csD c0)) [none, none, none, none, none] := e0
  have rg : rng2 [.int 1, .int 12] = some ((List.range 11).map fun i : Nat => PyData.int ((i : Int) + 1)) := by kernel_rfl
  obtain ⟨ρ', el, P, b3, b4, b5, rfl, eT, hu, hF, hS, hv, _⟩ := loop_inv (f := fun i : Nat => PyData.int ((i : Int) + 1)) (t := tName 3) (b := m_long_b2)
    (fun rest ρ => ∃ (P : List Cs) (b3 b4 b5 : Option OD), ρ = [some (.sh (.list mores)), some (.sh noD), some (.ol (P.map csD)), b3, b4, b5, none] ∧ P.map (·.tag) ++ rest.map (fun i : Nat => el11 ((i : Int) + 1)) = (List.range 12).map elT ∧ (∀ c ∈ P, c.under = none) ∧ (∀ c ∈ P, CsF c) ∧ (∀ c ∈ P, SlOk c) ∧ (∀ c ∈ P, c.vs.length ≤ 6) ∧ ∀ i ∈ rest, i < 11) (by
      rintro i rest ρ ⟨P, b3, b4, b5, rfl, eT, hu, hF, hS, hv, hr⟩
      have pl : P.length ≤ 12 := by
        have := congrArg List.length eT
        rw [List.length_append, List.length_map, List.length_map, List.length_map, List.length_range] at this
        omega
      have hi := hr i List.mem_cons_self
      obtain ⟨c, c4, c5, h1, h2, h3, h4, h5, e⟩ := long_b2 (P := P) (k := (i : Int) + 1) (a4 := b4) (a5 := b5) (by omega) (by omega) (by omega)
      refine ⟨[some (.sh (.list mores)), some (.sh noD), some (.ol (P.map csD)), some (.sh (.int ((i : Int) + 1))), b4, b5, none], _, rfl, .inl e, P ++ [c], _, c4, c5, rfl, ?_, ?_, ?_, ?_, ?_, fun j hj => hr j (List.mem_cons_of_mem _ hj)⟩
      · rw [List.map_append, List.append_assoc, List.map_singleton, h1]; exact eT
      all_goals (intro d hd'; rcases List.mem_append.mp hd' with q | q)
      · exact hu d q
      · rw [List.mem_singleton.mp q]; exact h2
      · exact hF d q
      · rw [List.mem_singleton.mp q]; exact h3
      · exact hS d q
      · rw [List.mem_singleton.mp q]; exact h4
      · exact hv d q
      · rw [List.mem_singleton.mp q]; exact h5) (List.range 11) [some (.sh (.list mores)), some (.sh noD), some (.ol ([c0].map csD)), none, none, none, none]
    ⟨[c0], none, none, none, rfl, by rw [List.map_singleton, d1]; decide +kernel, fun c h => by rw [List.mem_singleton.mp h]; exact d2, fun c h => by rw [List.mem_singleton.mp h]; exact d3, fun c h => by rw [List.mem_singleton.mp h]; exact d4, fun c h => by rw [List.mem_singleton.mp h]; exact d5, fun i hi => List.mem_range.mp hi⟩
  rw [List.map_nil, List.append_nil] at eT
  have el : sLoop (tName 3) m_long_b2 ((List.range 11).map fun i : Nat => PyData.int ((i : Int) + 1)) [some (.sh (.list mores)), some (.sh noD), some (.ol [csD c0]), none, none, none, none] = _ := el
  refine ⟨P, good_bare eT hu hF hv, hS, ?_⟩
  unfold casD
  unfold fn_long m_long
  simp?! only [t3, t2, t0, l1, e0, rg, el, gTup_l]
end Lw
namespace Lw
open PySem L2 PySem.W PySem.SeqAt Eg
section
variable {L : List Cs} {N : List Sl} {a0 a1 a2 a3 a4 a5 a6 a7 a8 a9 a10 : Option OD}
theorem srt_th (h : Good37 L) {R : List Ti} (hR : ∀ x ∈ R, x ∈ L.map (·.tag)) (rl : R.length ≤ 13) : Th 40 900 2 (.tuple (sortD (R.map tiD))) := by
  have := Ths.all (q := 40) (n := 60) (k := 1) (by decide) (ds := sortD (R.map tiD)) fun d hd' => by
    obtain ⟨x, hx, rfl⟩ := List.mem_map.mp (List.mem_mergeSort.mp hd')
    obtain ⟨c, hc, rfl⟩ := List.mem_map.mp (hR x hx)
    exact (h.t c hc).th
  have hl : (sortD (R.map tiD)).length = R.length := by
    have := (List.mergeSort_perm (R.map tiD) (dataLe false id)).length_eq
    rw [List.length_map] at this
    exact this
  rw [hl] at this
  exact this.tup.mono (by omega) (by omega)
theorem once_le : ∀ ds : List PyData, (once ds).length ≤ ds.length := fun ds => by
  induction ds with
  | nil => exact Nat.zero_le _
  | cons d ds ih =>
    simp only [once, List.length_cons]
    have := List.length_filter_le (fun e => !decide (nk e = nk d)) (once ds)
    omega
theorem setT_th (h : Good37 L) {R : List Ti} (hR : ∀ x ∈ R, x ∈ L.map (·.tag)) (rl : R.length ≤ 26) : Th 40 1700 2 (.tuple (setT R)) := by
  have := Ths.all (q := 40) (n := 60) (k := 1) (by decide) (ds := setT R) fun d hd' => by
    obtain ⟨x, hx, rfl⟩ := List.mem_map.mp (once_mem (List.mem_mergeSort.mp hd'))
    obtain ⟨c, hc, rfl⟩ := List.mem_map.mp (hR x hx)
    exact (h.t c hc).th
  have hl : (setT R).length ≤ R.length := by
    have e : (setT R).length = (once (R.map tiD)).length := (List.mergeSort_perm _ _).length_eq
    have := once_le (R.map tiD)
    rw [List.length_map] at this
    omega
  exact this.tup.mono (by omega) (by omega)
theorem title41 {t : Ti} (h : Good37 L) (hS : ∀ c ∈ L, SlOk c) :
    ∃ b8, m_law_k41_b2 [a0, a1, a2, some (.sh (casD L)), a4, a5, a6, some (.sh (tiD t)), a8, a9, a10, none] = .ok .nx [a0, a1, a2, some (.sh (casD L)), a4, a5, a6, some (.sh (tiD t)), b8, a9, a10, none] := by
  have hl := h.len
  obtain ⟨R, I, e1⟩ := rests_on41 (L := L) (t := t) hS (tags_nd h.lin) (by omega)
  have e2 := rests41 (L := L) (S := [t]) hS (tags_nd h.lin) (by omega) (by rw [List.length_singleton]; omega) I
  have e2 : fn_rests [some (.sh (casD L)), some (.sh (.list [tiD t]))] = _ := e2
  have rl := I.len
  have tR := srt_th h I.s (by omega)
  have tD : Th 40 2000 3 (.list [.tuple (sortD (R.map tiD)), .tuple (sortD (R.map tiD))]) := (Ths.cons tR (Ths.cons tR (Ths.nil (n := 0) (by decide)))).lst.mono (by omega) (by omega)
  have rD := rep_th tD (by omega) (by omega)
  have q := gNe_strR (PyData.list [.tuple (sortD (R.map tiD)), .tuple (sortD (R.map tiD))]).shown
  have l1 : ∀ a : PyData, lstG [a] = some (.ol [a]) := fun _ => if_pos (show 1 ≤ sizeLine by decide)
  have l2 : ∀ a b : PyData, lstG [a, b] = some (.ol [a, b]) := fun _ _ => if_pos (show 2 ≤ sizeLine by decide)
  refine ⟨some (.sh (.tuple (sortD (R.map tiD)))), ?_⟩
  unfold m_law_k41_b2
  simp?! only [l1, e2, e1, l2, rD, q, v_pick, v_pk0, v_pkl, v_pkr, List.getD_cons_zero, List.getD_cons_succ]
theorem titles41 {T : List Ti} (h : Good37 L) (hS : ∀ c ∈ L, SlOk c) : ∃ b7 b8, sLoop (tName 7) m_law_k41_b2 (T.map tiD) [a0, a1, a2, some (.sh (casD L)), a4, a5, a6, a7, a8, a9, a10, none] = .ok .nx [a0, a1, a2, some (.sh (casD L)), a4, a5, a6, b7, b8, a9, a10, none] := by
  obtain ⟨ρ', e, b7, b8, rfl⟩ := loop_inv (f := tiD) (t := tName 7) (b := m_law_k41_b2)
    (fun rest ρ => ∃ b7 b8, ρ = [a0, a1, a2, some (.sh (casD L)), a4, a5, a6, b7, b8, a9, a10, none]) (by
      rintro t rest ρ ⟨b7, b8, rfl⟩
      obtain ⟨c8, e⟩ := title41 (t := t) (a0 := a0) (a1 := a1) (a2 := a2) (a4 := a4) (a5 := a5) (a6 := a6) (a8 := b8) (a9 := a9) (a10 := a10) h hS
      exact ⟨_, _, rfl, .inl e, _, c8, rfl⟩) T [a0, a1, a2, some (.sh (casD L)), a4, a5, a6, a7, a8, a9, a10, none] ⟨a7, a8, rfl⟩
  exact ⟨b7, b8, e⟩
theorem tags41 (h : Good37 L) : mComp ((mName 3).bind seqItems) (tName 11) (M.ret true) (m_law_k41_e1) [11] [a0, a1, a2, some (.sh (casD L)), a4, a5, a6, a7, a8, a9, a10, none] = .ok (.ol ((L.map (·.tag)).map tiD)) [a0, a1, a2, some (.sh (casD L)), a4, a5, a6, a7, a8, a9, a10, none] := by
  have z := sizeLine_eq
  have hl := h.len
  have e : (L.map (·.tag)).map tiD = L.map fun c => tiD c.tag := by rw [List.map_map]; rfl
  rw [e]
  refine comp_pure (f := csD) (fun c => tiD c.tag) (by unfold casD; simp?! only []) (by omega) fun c _ => ⟨[a0, a1, a2, some (.sh (casD L)), a4, a5, a6, a7, a8, a9, a10, some (.sh (csD c))], [a0, a1, a2, some (.sh (casD L)), a4, a5, a6, a7, a8, a9, a10, some (.sh (csD c))], rfl, ?_, rfl⟩
  have g0 := gIx_cs0 c
  unfold m_law_k41_e1
  simp?! only [g0]
def turn41R : M Out := sSeq (sSet 4 (mComp ((mName 3).bind seqItems) (tName 11) (M.ret true) (m_law_k41_e1) [11])) (sSeq (sSet 5 (mCallO fn_rumour (mCons (mSlot 1) (mCons ((mName 4).bind fun d => M.ret (.dat d)) (mNil))))) (sSeq (sSet 6 (mL gRepr (mCons ((mFix tupG (mCons ((mName 3).bind fun d => M.ret (.dat d)) (mCons ((mName 5).bind fun d => M.ret (.dat d)) (mNil)))).bind fun d => M.ret (.dat d)) (mNil)))) (sSeq (sFor (((m2 aAdd (mSlot 4) (((mFix lstG (mCons ((mFix tupG (mCons ((M.ret (.str "ash")).bind fun d => M.ret (.dat d)) (mCons ((M.ret (.int 0)).bind fun d => M.ret (.dat d)) (mCons ((M.ret (.int 0)).bind fun d => M.ret (.dat d)) (mNil))))).bind fun d => M.ret (.dat d)) (mCons ((mFix tupG (mCons ((M.ret (.str "oak")).bind fun d => M.ret (.dat d)) (mCons ((M.ret (.int 7)).bind fun d => M.ret (.dat d)) (mCons ((M.ret (.int 1)).bind fun d => M.ret (.dat d)) (mNil))))).bind fun d => M.ret (.dat d)) (mCons ((mFix tupG (mCons ((M.ret (.str "elm")).bind fun d => M.ret (.dat d)) (mCons ((M.ret (.int 9)).bind fun d => M.ret (.dat d)) (mCons ((M.ret (.int 9)).bind fun d => M.ret (.dat d)) (mNil))))).bind fun d => M.ret (.dat d)) (mNil))))).bind fz).bind fun d => M.ret (.dat d))).bind fz).bind seqItems) (tName 7) (m_law_k41_b2)) (sSeq (sPar 8 9 (mCall fn_own_shaken (mCons ((mName 3).bind fun d => M.ret (.dat d)) (mCons ((mName 5).bind fun d => M.ret (.dat d)) (mNil)))) (mCall fn_own_shaken (mCons ((mName 3).bind fun d => M.ret (.dat d)) (mCons ((mFix tupG (mNil)).bind fun d => M.ret (.dat d)) (mNil))))) (sSeq (sSet 10 (mFix lstG (mCons (((mCall fn_shaken (mApp (mCons ((mName 3).bind fun d => M.ret (.dat d)) (mNil)) (mCons ((mName 5).bind fun d => M.ret (.dat d)) (mNil)))).bind fz).bind fun d => M.ret (.dat d)) (mCons (((mCall fn_shaken (mPick [.inl 1, .inl 0] (mApp (mNil) (mCons ((mName 5).bind fun d => M.ret (.dat d)) (mCons ((mName 3).bind fun d => M.ret (.dat d)) (mNil)))))).bind fz).bind fun d => M.ret (.dat d)) (mCons (((mCall fn_shaken (mPick [.inl 0, .inr (.tuple [])] (mApp (mCons ((mName 3).bind fun d => M.ret (.dat d)) (mNil)) (mNil)))).bind fz).bind fun d => M.ret (.dat d)) (mCons (((mCall fn_shaken (mApp (mCons ((mName 3).bind fun d => M.ret (.dat d)) (mNil)) (mCons ((mFix tupG (mNil)).bind fun d => M.ret (.dat d)) (mNil)))).bind fz).bind fun d => M.ret (.dat d)) (mNil))))))) (sIf (mOr ((m2 gNe (((mL gRepr (mCons (mSlot 10) (mNil))).bind fz).bind fun d => M.ret (.dat d)) (((mL gRepr (mCons (((mFix lstG (mCons ((mName 8).bind fun d => M.ret (.dat d)) (mCons ((mName 8).bind fun d => M.ret (.dat d)) (mCons ((mName 9).bind fun d => M.ret (.dat d)) (mCons ((mName 9).bind fun d => M.ret (.dat d)) (mNil)))))).bind fz).bind fun d => M.ret (.dat d)) (mNil))).bind fz).bind fun d => M.ret (.dat d))).bind asBool) ((m2 gNe (((mL gRepr (mCons ((mFix tupG (mCons ((mName 3).bind fun d => M.ret (.dat d)) (mCons ((mName 5).bind fun d => M.ret (.dat d)) (mNil)))).bind fun d => M.ret (.dat d)) (mNil))).bind fz).bind fun d => M.ret (.dat d)) (mSlot 6)).bind asBool)) (sRet ((M.ret (.bool false)).bind fun d => M.ret (.sh d))) (sNext)))))))
theorem turn41_eq : m_law_k41_b3 = sSeq (sSet 3 (mIf ((m2 gGt (mSlot 2) ((M.ret (.int 0)).bind fun d => M.ret (.dat d))).bind asBool) (mCallO fn_cases (mCons (mSlot 1) (mCons (((mCallO fn_pact (mCons (mSlot 1) (mNil))).bind fz).bind fun d => M.ret (.dat d)) (mNil)))) (mCall fn_long (mCons (((mFix lstG (mCons ((M.ret (.int 0)).bind fun d => M.ret (.dat d)) (mCons ((M.ret (.int 1)).bind fun d => M.ret (.dat d)) (mCons ((M.ret (.int 2)).bind fun d => M.ret (.dat d)) (mCons ((M.ret (.int 3)).bind fun d => M.ret (.dat d)) (mNil)))))).bind fz).bind fun d => M.ret (.dat d)) (mCons ((M.ret (.str "no")).bind fun d => M.ret (.dat d)) (mNil)))))) turn41R := rfl
theorem turn41R_ok {xs : List PyData} {n : Nat} (h : Good37 L) (hS : ∀ c ∈ L, SlOk c) (hf : FeedAt xs n) (hn : n < 400000) : ∃ (xs' : List PyData) (b4 b5 b6 b7 b8 b9 b10 : Option OD), FeedAt xs' (n + 37) ∧
    turn41R [a0, some (.ol xs), a2, some (.sh (casD L)), a4, a5, a6, a7, a8, a9, a10, none] = .ok .nx [a0, some (.ol xs'), a2, some (.sh (casD L)), b4, b5, b6, b7, b8, b9, b10, none] := by
  have z := sizeLine_eq
  have hl := h.len
  have e1 := tags41 (L := L) (a0 := a0) (a1 := some (.ol xs)) (a2 := a2) (a4 := a4) (a5 := a5) (a6 := a6) (a7 := a7) (a8 := a8) (a9 := a9) (a10 := a10) h
  obtain ⟨T, eT⟩ : ∃ T, T = L.map (·.tag) := ⟨_, rfl⟩
  rw [← eT] at e1
  have tl : T.length ≤ 13 := by rw [eT, List.length_map]; exact hl
  obtain ⟨N, xs', nl, hN, f1, e2⟩ := rumour41 (T := T) hf (by omega) tl fun t ht => by
    rw [eT] at ht
    obtain ⟨c, hc, rfl⟩ := List.mem_map.mp ht
    exact (h.t c hc).th
  have tN : Th 40 1300 6 (.tuple (N.map slD)) := by
    have := Ths.all (q := 40) (n := 300) (k := 3) (by decide) (ds := N.map slD) fun d hd' => by
      obtain ⟨s, hs, rfl⟩ := List.mem_map.mp hd'
      exact sl_th (hN s hs)
    rw [List.length_map] at this
    exact this.tup.mono (by omega) (by omega)
  have tK : Th 40 60000 8 (.tuple [casD L, .tuple (N.map slD)]) := (Ths.cons (cas_th h) (Ths.cons tN (Ths.nil (n := 0) (by decide)))).tup.mono (by omega) (by omega)
  obtain ⟨ND, eND⟩ : ∃ ND, ND = N.map slD := ⟨_, rfl⟩
  have rK := rep_th tK (by omega) (by omega)
  have t2 : ∀ a b : PyData, tupG [a, b] = some (.tuple [a, b]) := fun _ _ => if_pos (show 2 ≤ sizeLine by decide)
  have t3 : ∀ a b c : PyData, tupG [a, b, c] = some (.tuple [a, b, c]) := fun _ _ _ => if_pos (show 3 ≤ sizeLine by decide)
  have t0 : tupG [] = some (.tuple []) := if_pos (Nat.zero_le _)
  have l3 : ∀ a b c : PyData, lstG [a, b, c] = some (.ol [a, b, c]) := fun _ _ _ => if_pos (show 3 ≤ sizeLine by decide)
  have l4 : ∀ a b c d : PyData, lstG [a, b, c, d] = some (.ol [a, b, c, d]) := fun _ _ _ _ => if_pos (show 4 ≤ sizeLine by decide)
  have ad : aAdd (.list (T.map tiD)) (.list [.tuple [.str (Str.ofString "ash"), .int 0, .int 0], .tuple [.str (Str.ofString "oak"), .int 7, .int 1], .tuple [.str (Str.ofString "elm"), .int 9, .int 9]]) = some (.ol ((T ++ [(Str.ofString "ash", 0, 0), (Str.ofString "oak", 7, 1), (Str.ofString "elm", 9, 9)]).map tiD)) := by
    rw [List.map_append]
    refine aAdd_ll ?_
    rw [List.length_map]
    show _ + 3 ≤ _
    omega
  obtain ⟨T2, eT2⟩ : ∃ T2 : List Ti, T2 = T ++ [(Str.ofString "ash", 0, 0), (Str.ofString "oak", 7, 1), (Str.ofString "elm", 9, 9)] := ⟨_, rfl⟩
  rw [← eT2] at ad
  obtain ⟨R, I, s1⟩ := shaken41 (L := L) (N := N) h.lin h.f hS (by omega) hN (by omega)
  have s2 := own_shaken41 (L := L) (N := N) h.lin h.f hS (by omega) hN (by omega) I
  obtain ⟨R0, I0, s3⟩ := shaken41 (L := L) (N := []) h.lin h.f hS (by omega) (fun s h => nomatch h) (by decide)
  have s4 := own_shaken41 (L := L) (N := []) h.lin h.f hS (by omega) (fun s h => nomatch h) (by decide) I0
  have rl := I.len
  have rl0 := I0.len
  have tt : ∀ N : List Sl, (turnedT L N).length ≤ L.length ∧ ∀ x ∈ turnedT L N, x ∈ L.map (·.tag) := fun N => by
    unfold turnedT
    refine ⟨by rw [List.length_map]; exact List.length_filter_le _ _, fun x hx => ?_⟩
    obtain ⟨c, hc, rfl⟩ := List.mem_map.mp hx
    exact List.mem_map.mpr ⟨c, (List.mem_filter.mp hc).1, rfl⟩
  have w1 := setT_th h (R := turnedT L N ++ R) (fun x hx => by
    rcases List.mem_append.mp hx with q | q
    · exact (tt N).2 x q
    · exact I.s x q) (by have := (tt N).1; rw [List.length_append]; omega)
  have w0 := setT_th h (R := turnedT L [] ++ R0) (fun x hx => by
    rcases List.mem_append.mp hx with q | q
    · exact (tt []).2 x q
    · exact I0.s x q) (by have := (tt []).1; rw [List.length_append]; omega)
  obtain ⟨A, eA⟩ : ∃ A, A = setT (turnedT L N ++ R) := ⟨_, rfl⟩
  obtain ⟨B, eB⟩ : ∃ B, B = setT (turnedT L [] ++ R0) := ⟨_, rfl⟩
  rw [← eA] at w1 s1 s2
  rw [← eB] at w0 s3 s4
  have s3 : fn_shaken [some (.sh (casD L)), some (.sh (.tuple []))] = .ok (.sh (.tuple B)) [none, none] := s3
  have s4 : fn_own_shaken [some (.sh (casD L)), some (.sh (.tuple []))] = .ok (.sh (.tuple B)) [none, none] := s4
  have tD : Th 40 7000 3 (.list [.tuple A, .tuple A, .tuple B, .tuple B]) := (Ths.cons w1 (Ths.cons w1 (Ths.cons w0 (Ths.cons w0 (Ths.nil (n := 0) (by decide)))))).lst.mono (by omega) (by omega)
  have rD := rep_th tD (by omega) (by omega)
  have q1 := gNe_strR (PyData.list [.tuple A, .tuple A, .tuple B, .tuple B]).shown
  have q2 := gNe_strR (PyData.tuple [casD L, .tuple (N.map slD)]).shown
  obtain ⟨b7, b8, e3⟩ := titles41 (T := T2) (L := L) (a0 := a0) (a1 := some (.ol xs')) (a2 := a2) (a4 := some (.sh (.list (T.map tiD)))) (a5 := some (.sh (.tuple (N.map slD)))) (a6 := some (.sh (.str (PyData.tuple [casD L, .tuple (N.map slD)]).shown))) (a7 := a7) (a8 := a8) (a9 := a9) (a10 := a10) h hS
  refine ⟨xs', some (.sh (.list (T.map tiD))), some (.sh (.tuple (N.map slD))), some (.sh (.str (PyData.tuple [casD L, .tuple (N.map slD)]).shown)), b7, some (.sh (.tuple A)), some (.sh (.tuple B)), some (.ol [.tuple A, .tuple A, .tuple B, .tuple B]), f1, ?_⟩
  unfold turn41R
  simp?! only [e1, e2, t2, rK, l3, t3, ad, e3, s1, s2, s3, s4, t0, l4, rD, q1, q2, v_pick, v_pk0, v_pkl, v_pkr, List.getD_cons_zero, List.getD_cons_succ]
theorem turn41 {xs : List PyData} {n i : Nat} (hf : FeedAt xs n) (hn : n < 200000) :
    ∃ (xs' : List PyData) (b3 b4 b5 b6 b7 b8 b9 b10 : Option OD), FeedAt xs' (n + 750) ∧ m_law_k41_b3 [a0, some (.ol xs), some (.sh (.int (i : Int))), a3, a4, a5, a6, a7, a8, a9, a10, none] = .ok .nx [a0, some (.ol xs'), some (.sh (.int (i : Int))), b3, b4, b5, b6, b7, b8, b9, b10, none] := by
  by_cases q : i = 0
  · subst q
    obtain ⟨L, hG, hS, ee⟩ := long41
    obtain ⟨xs', b4, b5, b6, b7, b8, b9, b10, f1, e⟩ := turn41R_ok (L := L) (a0 := a0) (a2 := some (.sh (.int 0))) (a4 := a4) (a5 := a5) (a6 := a6) (a7 := a7) (a8 := a8) (a9 := a9) (a10 := a10) hG hS hf (by omega)
    have ee : fn_long [some (.sh (.list [.int 0, .int 1, .int 2, .int 3])), some (.sh (.str (Str.ofString "no")))] = .ok (.sh (casD L)) [none, none] := ee
    have z0 : ¬ (0 : Int) < 0 := Int.lt_irrefl 0
    have l4 : ∀ a b c d : PyData, lstG [a, b, c, d] = some (.ol [a, b, c, d]) := fun _ _ _ _ => if_pos (show 4 ≤ sizeLine by decide)
    refine ⟨xs', some (.sh (casD L)), b4, b5, b6, b7, b8, b9, b10, f1.mono (by omega), ?_⟩
    show m_law_k41_b3 [a0, some (.ol xs), some (.sh (.int 0)), a3, a4, a5, a6, a7, a8, a9, a10, none] = .ok .nx [a0, some (.ol xs'), some (.sh (.int 0)), some (.sh (casD L)), b4, b5, b6, b7, b8, b9, b10, none]
    rw [← e, turn41_eq]
    simp?! only [z0, l4, ee]
  · have qi : (0 : Int) < (i : Int) := by omega
    obtain ⟨a, b, w, xs1, p1, p2, p3, p4, _, _, f1, e1⟩ := pact_new hf (by omega)
    obtain ⟨L, xs2, hG, hS, f2, e2⟩ := cases37 (w := w) f1 (by omega) p1 p2 p3 p4
    have e2 : fn_cases [some (.ol xs1), some (.sh (.tuple [.tuple [.str (Str.ofString "elm"), .str (Str.ofString "oak")], .int a, .int b, .int w]))] = _ := e2
    obtain ⟨xs', b4, b5, b6, b7, b8, b9, b10, f3, e⟩ := turn41R_ok (L := L) (a0 := a0) (a2 := some (.sh (.int (i : Int)))) (a4 := a4) (a5 := a5) (a6 := a6) (a7 := a7) (a8 := a8) (a9 := a9) (a10 := a10) hG hS f2 (by omega)
    refine ⟨xs', some (.sh (casD L)), b4, b5, b6, b7, b8, b9, b10, f3.mono (by omega), ?_⟩
    rw [← e, turn41_eq]
    simp?! only [qi, e1, e2]
end
theorem law_k41_true (ns : List Int) (h : ns.length ≤ 63) : ∃ ρ, fnM 11 [false] m_law_k41 [some (.sc ns)] = .ok (.sh (.bool true)) ρ := by
  obtain ⟨xs, hf, e1⟩ := source_new ns
  have rg := rng1_natX (j := 5) (by decide) (by decide)
  obtain ⟨ρ', e2, xs2, b2, b3, b4, b5, b6, b7, b8, b9, b10, rfl, _⟩ := loop_inv (f := fun i : Nat => PyData.int (i : Int)) (t := tName 2) (b := m_law_k41_b3)
    (fun rest ρ => ∃ (xs : List PyData) (b2 b3 b4 b5 b6 b7 b8 b9 b10 : Option OD), ρ = [some (.sc ns), some (.ol xs), b2, b3, b4, b5, b6, b7, b8, b9, b10, none] ∧ FeedAt xs (750 * (5 - rest.length)) ∧ rest.length ≤ 5) (by
      rintro i rest ρ ⟨xs, b2, b3, b4, b5, b6, b7, b8, b9, b10, rfl, f, hl⟩
      rw [List.length_cons] at f hl
      obtain ⟨xs', c3, c4, c5, c6, c7, c8, c9, c10, f', e⟩ := turn41 (a0 := some (.sc ns)) (a3 := b3) (a4 := b4) (a5 := b5) (a6 := b6) (a7 := b7) (a8 := b8) (a9 := b9) (a10 := b10) (i := i) f (by omega)
      exact ⟨_, _, rfl, .inl e, xs', _, c3, c4, c5, c6, c7, c8, c9, c10, rfl, f'.mono (by omega), by omega⟩) (List.range 5) [some (.sc ns), some (.ol xs), none, none, none, none, none, none, none, none, none, none]
    ⟨xs, none, none, none, none, none, none, none, none, none, rfl, hf.mono (by omega), by decide⟩
  have rg : rng1 [.int 5] = some ((List.range 5).map fun i : Nat => PyData.int (i : Int)) := rg
  refine ⟨[none], ?_⟩
  unfold m_law_k41
  simp?! only [e1, rg, e2]
end Lw
open PySem PySem.W PyProof.Rows in
set_option maxRecDepth 100000 in
set_option maxHeartbeats 0 in
theorem PySem.Challenge.cw_strangerbench_k41_rests_and_shaken_told_holds : PySem.Challenge.rw_strangerbench_k41_rests_and_shaken_told.Holds := by
  w_on; o_law; k_head; (case hw => w_witness2)
  k_fill
  refine Eg.law_walk (l := PySem.Challenge.rw_strangerbench_k41_rests_and_shaken_told) (n := 63) (k := 20) (m := 11) (x := "script") (body := Lw.m_law_k41) (XR := fun _ _ _ _ _ => False) rfl (by decide) rfl ⟨rfl, by decide, by decide⟩ (fun w h Y => PySem.W.kIn_of Y) ?F Lw.law_k41_true
  case F =>
    intro w mg fa h KX G hmg
    refine' Dv.all_in KX G hmg ?a_s0 ?l_s0 ?c_s0 ?k_s0 ?a_s1 ?l_s1 ?c_s1 ?k_s1 ?a_s2 ?l_s2 ?c_s2 ?k_s2 ?a_s3 ?l_s3 ?c_s3 ?k_s3 ?a_s4 ?l_s4 ?c_s4 ?k_s4 ?a_s5 ?l_s5 ?c_s5 ?k_s5 ?a_s6 ?l_s6 ?c_s6 ?k_s6 ?e_T_shaken_news ?w_T_shaken_news ?a_s7 ?l_s7 ?c_s7 ?k_s7 ?a_s8 ?l_s8 ?c_s8 ?k_s8 ?a_s9 ?l_s9 ?c_s9 ?k_s9 ?a_s10 ?l_s10 ?c_s10 ?k_s10 ?a_s11 ?l_s11 ?c_s11 ?k_s11 ?a_s12 ?l_s12 ?c_s12 ?k_s12 ?a_s13 ?l_s13 ?c_s13 ?k_s13 ?a_s14 ?l_s14 ?c_s14 ?k_s14 ?a_s15 ?l_s15 ?c_s15 ?k_s15 ?a_s16 ?l_s16 ?c_s16 ?k_s16 ?a_s17 ?l_s17 ?c_s17 ?k_s17 ?a_s18 ?l_s18 ?c_s18 ?k_s18 ?a_s19 ?l_s19 ?c_s19 ?k_s19 ?a_s20 ?l_s20 ?c_s20 ?k_s20 ?a_s21 ?l_s21 ?c_s21 ?k_s21 ?a_s22 ?l_s22 ?c_s22 ?k_s22 ?a_s23 ?l_s23 ?c_s23 ?k_s23 ?a_s24 ?l_s24 ?c_s24 ?k_s24 ?a_s25 ?l_s25 ?c_s25 ?k_s25 ?ca_VERDICTS ?cb_VERDICTS ?z_any ?z_int ?z_len ?z_list ?z_min ?z_range ?z_repr ?z_reversed ?z_set ?z_sorted ?z_tuple
    case a_s0 => k_is
    case l_s0 => k_is
    case c_s0 => k_is
    case k_s0 => k_is
    case a_s1 => k_is
    case l_s1 => k_is
    case c_s1 => k_is
    case k_s1 => k_is
    case a_s2 => k_is
    case l_s2 => k_is
    case c_s2 => k_is
    case k_s2 => k_is
    case a_s3 => k_is
    case l_s3 => k_is
    case c_s3 => k_is
    case k_s3 => k_is
    case a_s4 => k_is
    case l_s4 => k_is
    case c_s4 => k_is
    case k_s4 => k_is
    case a_s5 => k_is
    case l_s5 => k_is
    case c_s5 => k_is
    case k_s5 => k_is
    case a_s6 => k_is
    case l_s6 => k_is
    case c_s6 => k_is
    case k_s6 => k_is
    case e_T_shaken_news => k_is
    case w_T_shaken_news => k_is
    case a_s7 => k_is
    case l_s7 => k_is
    case c_s7 => k_is
    case k_s7 => k_is
    case a_s8 => k_is
    case l_s8 => k_is
    case c_s8 => k_is
    case k_s8 => k_is
    case a_s9 => k_is
    case l_s9 => k_is
    case c_s9 => k_is
    case k_s9 => k_is
    case a_s10 => k_is
    case l_s10 => k_is
    case c_s10 => k_is
    case k_s10 => k_is
    case a_s11 => k_is
    case l_s11 => k_is
    case c_s11 => k_is
    case k_s11 => k_is
    case a_s12 => k_is
    case l_s12 => k_is
    case c_s12 => k_is
    case k_s12 => k_is
    case a_s13 => k_is
    case l_s13 => k_is
    case c_s13 => k_is
    case k_s13 => k_is
    case a_s14 => k_is
    case l_s14 => k_is
    case c_s14 => k_is
    case k_s14 => k_is
    case a_s15 => k_is
    case l_s15 => k_is
    case c_s15 => k_is
    case k_s15 => k_is
    case a_s16 => k_is
    case l_s16 => k_is
    case c_s16 => k_is
    case k_s16 => k_is
    case a_s17 => k_is
    case l_s17 => k_is
    case c_s17 => k_is
    case k_s17 => k_is
    case a_s18 => k_is
    case l_s18 => k_is
    case c_s18 => k_is
    case k_s18 => k_is
    case a_s19 => k_is
    case l_s19 => k_is
    case c_s19 => k_is
    case k_s19 => k_is
    case a_s20 => k_is
    case l_s20 => k_is
    case c_s20 => k_is
    case k_s20 => k_is
    case a_s21 => k_is
    case l_s21 => k_is
    case c_s21 => k_is
    case k_s21 => k_is
    case a_s22 => k_is
    case l_s22 => k_is
    case c_s22 => k_is
    case k_s22 => k_is
    case a_s23 => k_is
    case l_s23 => k_is
    case c_s23 => k_is
    case k_s23 => k_is
    case a_s24 => k_is
    case l_s24 => k_is
    case c_s24 => k_is
    case k_s24 => k_is
    case a_s25 => k_is
    case l_s25 => k_is
    case c_s25 => k_is
    case k_s25 => k_is
    case ca_VERDICTS => k_is
    case cb_VERDICTS => k_is
    case z_any => k_is
    case z_int => k_is
    case z_len => k_is
    case z_list => k_is
    case z_min => k_is
    case z_range => k_is
    case z_repr => k_is
    case z_reversed => k_is
    case z_set => k_is
    case z_sorted => k_is
    case z_tuple => k_is

