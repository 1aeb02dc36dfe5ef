import PyProof.Rows.All
import Wide.All
import OpenK.AllK
import Wide.FinOn
import HandS.ForMost
import HandS.Lambda
import KE.KDictKeyed
import KE.KDictDisplayH
import HandS.Wide
import HandS.SetKeys
import HandS.IsInst
import HandS.Deep
import HandS.More
import HandS.TupAny
import PyProof.ReprRoads
import HandS.Property
import HandS.MakeKwOnly
import HandS.DictComp
import HandS.Style
import HandS.OwnEq
import HandS.RaiseMore
import HandS.Defaults
import PyProof.ReprLen
import PyProof.StrLawsRepr
import HandS.WideBits
import HandS.MakeKw
import HandS.Conv
import HandS.Iter
import HandS.Zip
import HandS.SetFor
import PyProof.InstNe
import HandS.NamedTup0
import HandS.Dict
import HandS.Exc
import HandS.ExcOwn
import HandS.ExcInit
import HandS.ExcIs
import HandS.ExcField
import PyProof.Rows.StrRev
import PyProof.Rows.StrStep
import HandS.EndBits
import HandS.SortKw
import HandS.Keys
import KE.KSortKey
import HandS.NoneIn
import HandS.RevRange
import HandS.EndTab
import HandS.SortRule
import HandS.Finally
import PyProof.NeKinds
import HandS.ListItems
import PyProof.Rows.ReprOcc
import PyProof.ReprText
import HandS.DictEq
import KE.GoesMore
import HandS.Star
import KE.KSuper
import HandS.ClsMeth
import PyProof.Rows.SetFrom
import HandS.DictTup
import HandS.SortOrd
import PyProof.Rows.SortKeyStr
import HandS.Set
import HandS.SortInts
import PySem.Challenge.RW_anycut_k15_equal_rules
set_option Elab.async false
set_option linter.all false
set_option maxRecDepth 100000
set_option autoImplicit false
/-! A small logic of data over the hand layer: what a value reads as, what stands still, what cells may change. -/
namespace DL
open PySem PySem.Spec PyProof.Rows L2

/-- data, as the proofs speak of them; adr: a cell that may still change -/
inductive D where
  | non | bl (b : Bool) | int (i : Int) | str (x : Str) | adr (a : Addr) | ty (n : String) | scr (ns : List Int)
  | lst (xs : List D) | tup (xs : List D) | dic (kvs : List (Key × D)) | ins (C : Addr) (fs : List (Str × D))

mutual
/-- in the still part F of a heap a value reads as these data -/
inductive Rd (K : PySem.W.Frag) (F : Hp) : V → D → Prop
  | non : Rd K F .non .non
  | bl (b : Bool) : Rd K F (.bl b) (.bl b)
  | int (i : Int) : Rd K F (.int i) (.int i)
  | str (x : Str) : Rd K F (.str x) (.str x)
  | adr (a : Addr) : Rd K F (.ref a) (.adr a)
  | ty (n : String) : Rd K F (.ty n) (.ty n)
  | scr {a : Addr} {ns : List Int} : SqL K F a (ns.map V.int) → Rd K F (.ref a) (.scr ns)
  | lst {a : Addr} {xs : List V} {ds : List D} : F a = some (.lst xs) → RdL K F xs ds → Rd K F (.ref a) (.lst ds)
  | tup {a : Addr} {xs : List V} {ds : List D} : SqT K F a xs → RdL K F xs ds → Rd K F (.ref a) (.tup ds)
  | dic {a : Addr} {vs : List (Key × V)} {ds : List (Key × D)} : F a = some (.dK vs) → vs.map Prod.fst = ds.map Prod.fst → RdL K F (vs.map Prod.snd) (ds.map Prod.snd) → Rd K F (.ref a) (.dic ds)
  | ins {a C dx : Addr} {vs : List (Str × V)} {ds : List (Str × D)} : F a = some (.ins C dx vs) → vs.map Prod.fst = ds.map Prod.fst → RdL K F (vs.map Prod.snd) (ds.map Prod.snd) → Rd K F (.ref a) (.ins C ds)
inductive RdL (K : PySem.W.Frag) (F : Hp) : List V → List D → Prop
  | nil : RdL K F [] []
  | cons {v : V} {vs : List V} {d : D} {ds : List D} : Rd K F v d → RdL K F vs ds → RdL K F (v :: vs) (d :: ds)
end

/-- all that stands in F stands in F' -/
def Sub (F F' : Hp) : Prop := ∀ a o, F a = some o → F' a = some o
theorem Sub.refl (F : Hp) : Sub F F := fun _ _ h => h
theorem Sub.trans {F G H : Hp} (a : Sub F G) (b : Sub G H) : Sub F H := fun x o h => b x o (a x o h)
theorem Sub.rd {F F' : Hp} {a : Addr} {u : HO} (e : Sub F F') (h : L2.Rd F a u) : L2.Rd F' a u := by
  rcases h with q | ⟨o, q⟩
  · exact .inl (e _ _ q)
  · exact .inr ⟨o, e _ _ q⟩
theorem Sub.sql {K : PySem.W.Frag} {F F' : Hp} {a : Addr} {xs : List V} (e : Sub F F') (h : SqL K F a xs) : SqL K F' a xs := by
  rcases h with q | q
  · exact .inl (e.rd q)
  · exact .inr q
theorem Sub.sqt {K : PySem.W.Frag} {F F' : Hp} {a : Addr} {xs : List V} (e : Sub F F') (h : SqT K F a xs) : SqT K F' a xs := by
  rcases h with q | q
  · exact .inl (e.rd q)
  · exact .inr q

mutual
theorem Rd.mono {K : PySem.W.Frag} {F F' : Hp} (e : Sub F F') : ∀ {v : V} {d : D}, Rd K F v d → Rd K F' v d
  | _, _, .non => .non
  | _, _, .bl b => .bl b
  | _, _, .int i => .int i
  | _, _, .str x => .str x
  | _, _, .adr a => .adr a
  | _, _, .ty n => .ty n
  | _, _, .scr h => .scr (e.sql h)
  | _, _, .lst h r => .lst (e _ _ h) (RdL.mono e r)
  | _, _, .tup h r => .tup (e.sqt h) (RdL.mono e r)
  | _, _, .dic h k r => .dic (e _ _ h) k (RdL.mono e r)
  | _, _, .ins h k r => .ins (e _ _ h) k (RdL.mono e r)
theorem RdL.mono {K : PySem.W.Frag} {F F' : Hp} (e : Sub F F') : ∀ {vs : List V} {ds : List D}, RdL K F vs ds → RdL K F' vs ds
  | _, _, .nil => .nil
  | _, _, .cons h r => .cons (Rd.mono e h) (RdL.mono e r)
end
theorem RdL.length {K : PySem.W.Frag} {F : Hp} : ∀ {vs : List V} {ds : List D}, RdL K F vs ds → vs.length = ds.length
  | _, _, .nil => rfl
  | _, _, .cons _ r => by rw [List.length_cons, List.length_cons, RdL.length r]
theorem RdL.get {K : PySem.W.Frag} {F : Hp} : ∀ {vs : List V} {ds : List D} {i : Nat} {d : D}, RdL K F vs ds → ds[i]? = some d → ∃ v, vs[i]? = some v ∧ Rd K F v d
  | _, _, _, _, .nil, e => by simp at e
  | _, _, 0, _, .cons h _, e => by
    simp at e
    subst e
    exact ⟨_, rfl, h⟩
  | _, _, i + 1, d, .cons _ r, e => by
    obtain ⟨v, h1, h2⟩ := RdL.get (i := i) (d := d) r (by simpa using e)
    exact ⟨v, by simpa using h1, h2⟩
theorem RdL.append {K : PySem.W.Frag} {F : Hp} : ∀ {vs ws : List V} {ds es : List D}, RdL K F vs ds → RdL K F ws es → RdL K F (vs ++ ws) (ds ++ es)
  | _, _, _, _, .nil, s => s
  | _, _, _, _, .cons h r, s => .cons h (RdL.append r s)
theorem RdL.snoc {K : PySem.W.Frag} {F : Hp} {vs : List V} {ds : List D} {v : V} {d : D} (r : RdL K F vs ds) (h : Rd K F v d) : RdL K F (vs ++ [v]) (ds ++ [d]) := r.append (.cons h .nil)
theorem RdL.set {K : PySem.W.Frag} {F : Hp} {v : V} {d : D} (h : Rd K F v d) : ∀ {vs : List V} {ds : List D} (i : Nat), RdL K F vs ds → RdL K F (vs.set i v) (ds.set i d)
  | _, _, _, .nil => .nil
  | _, _, 0, .cons _ r => .cons h r
  | _, _, i + 1, .cons q r => .cons q (RdL.set h i r)
theorem RdL.take {K : PySem.W.Frag} {F : Hp} : ∀ {vs : List V} {ds : List D} (n : Nat), RdL K F vs ds → RdL K F (vs.take n) (ds.take n)
  | _, _, 0, _ => .nil
  | _, _, _ + 1, .nil => .nil
  | _, _, n + 1, .cons h r => .cons h (RdL.take n r)
theorem RdL.drop {K : PySem.W.Frag} {F : Hp} : ∀ {vs : List V} {ds : List D} (n : Nat), RdL K F vs ds → RdL K F (vs.drop n) (ds.drop n)
  | _, _, 0, r => r
  | _, _, _ + 1, .nil => .nil
  | _, _, n + 1, .cons _ r => RdL.drop n r
theorem RdL.reverse {K : PySem.W.Frag} {F : Hp} : ∀ {vs : List V} {ds : List D}, RdL K F vs ds → RdL K F vs.reverse ds.reverse
  | _, _, .nil => .nil
  | _, _, .cons h r => by
    rw [List.reverse_cons, List.reverse_cons]
    exact (RdL.reverse r).snoc h
theorem RdL.ints {K : PySem.W.Frag} {F : Hp} : ∀ {ns : List Int}, RdL K F (ns.map V.int) (ns.map D.int)
  | [] => .nil
  | n :: ns => .cons (.int n) RdL.ints
theorem RdL.strs {K : PySem.W.Frag} {F : Hp} : ∀ {ns : List Str}, RdL K F (ns.map V.str) (ns.map D.str)
  | [] => .nil
  | n :: ns => .cons (.str n) RdL.strs
theorem RdL.strs_v {K : PySem.W.Frag} {F : Hp} : ∀ {ns : List Str} {vs : List V}, RdL K F vs (ns.map D.str) → vs = ns.map V.str
  | [], _, .nil => rfl
  | n :: ns, _, .cons h r => by
    cases h
    rw [List.map_cons, RdL.strs_v r]
theorem RdL.bls_v {K : PySem.W.Frag} {F : Hp} : ∀ {ns : List Bool} {vs : List V}, RdL K F vs (ns.map D.bl) → vs = ns.map V.bl
  | [], _, .nil => rfl
  | n :: ns, _, .cons h r => by
    cases h
    rw [List.map_cons, RdL.bls_v r]

/-! ### dicts whose keys are tuples, nested ones too -/
mutual
/-- what a key reads as -/
def kd : NestedKey → D
  | .none => .non
  | .num i => .int i
  | .text x => .str x
  | .tup ks => .tup (kds ks)
def kds : List NestedKey → List D
  | [] => []
  | k :: ks => kd k :: kds ks
end
/-- the object at p is a dict with these keys (their tuples' addresses) and values -/
def NdIs (w : World) (p : Addr) (xs : List (NestedKey × Addr × V)) (h : Heap) : Prop :=
  xs.length ≤ sizeLine ∧ (p == sysModules) = false ∧ (∀ x ∈ xs, x.1.depth ≤ 8) ∧ ∃ vs : List (NestedKey × Addr × Value), Paired (fun (x : NestedKey × Addr × V) (y : NestedKey × Addr × Value) => x.1 = y.1 ∧ x.2.1 = y.2.1 ∧ RelV x.2.2 y.2.2) xs vs ∧
    ∃ o es ep, h.get? p = some o ∧ o.ExactDict ∧ o.data = .dict es ep ∧ es.toList = vs.map (fun y => (⟨y.1.hash w, .ref y.2.1, y.2.2⟩ : DictEntry)) ∧ (vs.map (·.1)).Nodup
def NdO (w : World) (p : Addr) (xs : List (NestedKey × Addr × V)) : HO := .ext (NdIs w p xs)
/-! ### cells that may change -/
inductive Cell where
  | lst (xs : List D) | dic (kvs : List (Key × D)) | ins (C : Addr) (fs : List (Str × D)) | xd (fs : List (Str × D)) | obj (o : HO) | tbl (q : Str) | dct (w : World) (kvs : List (NestedKey × D))
abbrev Mem := List (Addr × Cell)
/-- the still part: all but the cells -/
def hide (m : Mem) (H : Hp) : Hp := fun a => if a ∈ m.map Prod.fst then none else H a
def CellAt (K : PySem.W.Frag) (F H : Hp) (p : Addr) : Cell → Prop
  | .lst ds => ∃ xs, H p = some (.lst xs) ∧ RdL K F xs ds
  | .dic ds => ∃ vs : List (Key × V), H p = some (.dK vs) ∧ vs.map Prod.fst = ds.map Prod.fst ∧ RdL K F (vs.map Prod.snd) (ds.map Prod.snd)
  | .dct w ds => ∃ xs : List (NestedKey × Addr × V), H p = some (NdO w p xs) ∧ xs.map (·.1) = ds.map (·.1) ∧ RdL K F (xs.map fun x => V.ref x.2.1) (ds.map fun q => kd q.1) ∧ RdL K F (xs.map (·.2.2)) (ds.map (·.2))
  | .ins C ds => ∃ (dx : Addr) (vs : List (Str × V)), H p = some (.ins C dx vs) ∧ vs.map Prod.fst = ds.map Prod.fst ∧ RdL K F (vs.map Prod.snd) (ds.map Prod.snd)
  | .xd ds => ∃ vs : List (Str × V), H p = some (.xd vs) ∧ vs.map Prod.fst = ds.map Prod.fst ∧ RdL K F (vs.map Prod.snd) (ds.map Prod.snd)
  | .obj o => H p = some o
  | .tbl q => ∃ ps : Array Value, H p = some (.tbl ps) ∧ PySem.TriplesOk ps.toList ∧ ∀ (pos : Pos) (cv : Value), PySem.codeAmong pos ps.toList = some cv → ∃ c, cv = .ref c ∧ F c = some (LamX.CodeO c q)
structure MemOk (K : PySem.W.Frag) (m : Mem) (H : Hp) : Prop where
  nd : (m.map Prod.fst).Nodup
  at_ : ∀ p c, (p, c) ∈ m → CellAt K (hide m H) H p c

theorem hide_in {m : Mem} {H : Hp} {a : Addr} (h : a ∈ m.map Prod.fst) : hide m H a = none := if_pos h
theorem hide_out {m : Mem} {H : Hp} {a : Addr} (h : a ∉ m.map Prod.fst) : hide m H a = H a := if_neg h
theorem hide_le {m : Mem} {H : Hp} : Sub (hide m H) H := fun a o e => by
  by_cases h : a ∈ m.map Prod.fst
  · rw [hide_in h] at e; cases e
  · rw [hide_out h] at e; exact e
theorem CellAt.some {K : PySem.W.Frag} {F H : Hp} {p : Addr} {c : Cell} (h : CellAt K F H p c) : ∃ o, H p = some o := by
  cases c with
  | lst => obtain ⟨_, e, _⟩ := h; exact ⟨_, e⟩
  | dic => obtain ⟨_, e, _⟩ := h; exact ⟨_, e⟩
  | ins => obtain ⟨_, _, e, _⟩ := h; exact ⟨_, e⟩
  | xd => obtain ⟨_, e, _⟩ := h; exact ⟨_, e⟩
  | obj o => exact ⟨_, h⟩
  | tbl q => obtain ⟨_, e, _⟩ := h; exact ⟨_, e⟩
  | dct => obtain ⟨_, e, _⟩ := h; exact ⟨_, e⟩
theorem CellAt.mono {K : PySem.W.Frag} {F F' H H' : Hp} {p : Addr} {c : Cell} (h : CellAt K F H p c) (e : Sub F F') (k : H' p = H p) : CellAt K F' H' p c := by
  cases c with
  | lst => obtain ⟨xs, q, r⟩ := h; exact ⟨xs, k.trans q, r.mono e⟩
  | dic => obtain ⟨xs, q, n, r⟩ := h; exact ⟨xs, k.trans q, n, r.mono e⟩
  | ins => obtain ⟨dx, xs, q, n, r⟩ := h; exact ⟨dx, xs, k.trans q, n, r.mono e⟩
  | xd => obtain ⟨xs, q, n, r⟩ := h; exact ⟨xs, k.trans q, n, r.mono e⟩
  | dct => obtain ⟨xs, q, n, r1, r2⟩ := h; exact ⟨xs, k.trans q, n, r1.mono e, r2.mono e⟩
  | obj o => exact k.trans h
  | tbl q =>
    obtain ⟨ps, h1, h2, h3⟩ := h
    refine ⟨ps, k.trans h1, h2, fun pos cv hc => ?_⟩
    obtain ⟨c, e1, e2⟩ := h3 pos cv hc
    exact ⟨c, e1, e _ _ e2⟩
section
variable {K : PySem.W.Frag} {m : Mem} {H : Hp}
theorem MemOk.tracked (M : MemOk K m H) {p : Addr} (h : p ∈ m.map Prod.fst) : ∃ o, H p = some o := by
  obtain ⟨⟨q, c⟩, hm, rfl⟩ := List.mem_map.mp h
  exact (M.at_ _ _ hm).some
theorem MemOk.fresh (M : MemOk K m H) {p : Addr} (h : H p = none) : p ∉ m.map Prod.fst := fun q => by
  obtain ⟨o, e⟩ := M.tracked q
  rw [h] at e; cases e
/-- a new still object -/
theorem hide_new (M : MemOk K m H) {p : Addr} {o : HO} (h : H p = none) : hide m (upd H p o) = upd (hide m H) p o := by
  funext a
  have np := M.fresh h
  by_cases e : a = p
  · subst e
    rw [hide_out np, upd_same, upd_same]
  · rw [upd_ne e]
    unfold hide
    rw [upd_ne e]
theorem Sub.new {F : Hp} {p : Addr} {o : HO} (h : F p = none) : Sub F (upd F p o) := fun a u e => by
  rw [upd_ne (ne_of_none e h)]
  exact e
theorem hide_none {p : Addr} (h : H p = none) : hide m H p = none := by
  by_cases q : p ∈ m.map Prod.fst
  · exact hide_in q
  · rw [hide_out q]; exact h
theorem MemOk.new (M : MemOk K m H) {p : Addr} {o : HO} (h : H p = none) : MemOk K m (upd H p o) ∧ Sub (hide m H) (hide m (upd H p o)) := by
  have s : Sub (hide m H) (hide m (upd H p o)) := by
    rw [hide_new M h]
    exact Sub.new (hide_none h)
  refine ⟨⟨M.nd, fun q c hm => (M.at_ q c hm).mono s (upd_ne fun e => ?_)⟩, s⟩
  subst e
  exact M.fresh h (List.mem_map.mpr ⟨_, hm, rfl⟩)
/-- a new cell -/
theorem hide_cell {p : Addr} {c : Cell} {o : HO} (h : H p = none) : hide (m ++ [(p, c)]) (upd H p o) = hide m H := by
  funext a
  unfold hide
  rw [List.map_append]
  by_cases e : a = p
  · subst e
    rw [if_pos (by simp)]
    by_cases q : a ∈ m.map Prod.fst
    · rw [if_pos q]
    · rw [if_neg q, h]
  · rw [upd_ne e]
    by_cases q : a ∈ m.map Prod.fst
    · rw [if_pos q, if_pos (List.mem_append_left _ q)]
    · rw [if_neg q, if_neg (by simp only [List.map_cons, List.map_nil, List.mem_append, List.mem_singleton]; intro z; rcases z with z | z; exact q z; exact e z)]
theorem MemOk.cell (M : MemOk K m H) {p : Addr} {c : Cell} {o : HO} (h : H p = none) (hc : CellAt K (hide m H) (upd H p o) p c) : MemOk K (m ++ [(p, c)]) (upd H p o) := by
  have np := M.fresh h
  refine ⟨?_, fun q d hm => ?_⟩
  · rw [List.map_append]
    refine List.nodup_append.mpr ⟨M.nd, by simp, fun a ha b hb => ?_⟩
    simp at hb
    subst hb
    intro e; subst e; exact np ha
  · rw [hide_cell h]
    rcases List.mem_append.mp hm with z | z
    · refine (M.at_ q d z).mono (Sub.refl _) (upd_ne fun e => ?_)
      subst e
      exact np (List.mem_map.mpr ⟨_, z, rfl⟩)
    · simp at z
      obtain ⟨rfl, rfl⟩ := z
      exact hc
/-- a cell changes -/
theorem hide_set {i : Nat} {p : Addr} {c c' : Cell} {o : HO} (hi : m[i]? = some (p, c)) : hide (m.set i (p, c')) (upd H p o) = hide m H := by
  have e1 : (m.set i (p, c')).map Prod.fst = m.map Prod.fst := by
    rw [List.map_set]
    exact List.ext_getElem? fun j => by
      rw [List.getElem?_set]
      by_cases e : i = j
      · subst e
        rw [if_pos rfl]
        by_cases l : i < (m.map Prod.fst).length
        · rw [if_pos l, List.getElem?_map, hi]; rfl
        · rw [if_neg l, List.getElem?_eq_none (by omega)]
      · rw [if_neg e]
  funext a
  unfold hide
  rw [e1]
  by_cases e : a ∈ m.map Prod.fst
  · rw [if_pos e, if_pos e]
  · rw [if_neg e, if_neg e, upd_ne]
    intro z
    subst z
    exact e (List.mem_map.mpr ⟨_, List.mem_of_getElem? hi, rfl⟩)
theorem fst_set {i : Nat} {p : Addr} {c c' : Cell} (hi : m[i]? = some (p, c)) : (m.set i (p, c')).map Prod.fst = m.map Prod.fst := by
  rw [List.map_set]
  exact List.ext_getElem? fun j => by
    rw [List.getElem?_set]
    by_cases e : i = j
    · subst e
      rw [if_pos rfl]
      by_cases l : i < (m.map Prod.fst).length
      · rw [if_pos l, List.getElem?_map, hi]; rfl
      · rw [if_neg l, List.getElem?_eq_none (by omega)]
    · rw [if_neg e]
theorem MemOk.set (M : MemOk K m H) {i : Nat} {p : Addr} {c c' : Cell} {o : HO} (hi : m[i]? = some (p, c)) (hc : CellAt K (hide m H) (upd H p o) p c') : MemOk K (m.set i (p, c')) (upd H p o) := by
  refine ⟨by rw [fst_set hi]; exact M.nd, fun q d hm => ?_⟩
  rw [hide_set hi]
  obtain ⟨j, hj⟩ := List.getElem?_of_mem hm
  rw [List.getElem?_set] at hj
  by_cases e : i = j
  · subst e
    rw [if_pos rfl] at hj
    split at hj
    · cases hj
      exact hc
    · cases hj
  · rw [if_neg e] at hj
    refine (M.at_ q d (List.mem_of_getElem? hj)).mono (Sub.refl _) (upd_ne fun z => ?_)
    subst z
    have l1 : i < (m.map Prod.fst).length := by
      rw [List.length_map]
      exact (List.getElem?_eq_some_iff.mp hi).1
    exact e ((List.getElem?_inj l1 M.nd).mp (by rw [List.getElem?_map, List.getElem?_map, hi, hj] <;> rfl))
theorem MemOk.get (M : MemOk K m H) {i : Nat} {p : Addr} {c : Cell} (hi : m[i]? = some (p, c)) : CellAt K (hide m H) H p c := M.at_ _ _ (List.mem_of_getElem? hi)
end
end DL

set_option Elab.async false
set_option linter.all false
set_option maxRecDepth 100000
namespace DL
open PySem PySem.Spec PyProof.Rows L2
set_option autoImplicit false

/-- the slots of a frame, as data (none: not known) -/
structure Sl (K : PySem.W.Frag) (F : Hp) (σ : L2.St) (δ : List (Option D)) : Prop where
  len : σ.length = δ.length
  at_ : ∀ (i : Nat) (d : D), δ[i]? = some (some d) → ∃ v, σ[i]? = some (some v) ∧ Rd K F v d
theorem Sl.mono {K : PySem.W.Frag} {F F' : Hp} {σ : L2.St} {δ : List (Option D)} (h : Sl K F σ δ) (e : Sub F F') : Sl K F' σ δ :=
  ⟨h.len, fun i d q => let ⟨v, a, r⟩ := h.at_ i d q; ⟨v, a, r.mono e⟩⟩
theorem Sl.set {K : PySem.W.Frag} {F : Hp} {σ : L2.St} {δ : List (Option D)} (h : Sl K F σ δ) {v : V} {d : D} (i : Nat) (r : Rd K F v d) : Sl K F (σ.set i (some v)) (δ.set i (some d)) := by
  refine ⟨by rw [List.length_set, List.length_set]; exact h.len, fun j e q => ?_⟩
  rw [List.getElem?_set] at q
  rw [List.getElem?_set]
  by_cases c : i = j
  · subst c
    rw [if_pos rfl] at q ⊢
    by_cases l : i < δ.length
    · rw [if_pos l] at q
      rw [if_pos (by rw [h.len]; exact l)]
      cases q
      exact ⟨v, rfl, r⟩
    · rw [if_neg l] at q; cases q
  · rw [if_neg c] at q ⊢
    exact h.at_ j e q
theorem Sl.unset {K : PySem.W.Frag} {F : Hp} {σ : L2.St} {δ : List (Option D)} (h : Sl K F σ δ) (i : Nat) : Sl K F (σ.set i none) (δ.set i none) := by
  refine ⟨by rw [List.length_set, List.length_set]; exact h.len, fun j e q => ?_⟩
  rw [List.getElem?_set] at q
  rw [List.getElem?_set]
  by_cases c : i = j
  · subst c
    rw [if_pos rfl] at q
    split at q <;> cases q
  · rw [if_neg c] at q ⊢
    exact h.at_ j e q
def wipeD (δ : List (Option D)) : List Nat → List (Option D)
  | [] => δ
  | v :: vs => (wipeD δ vs).set v none
theorem Sl.wipe {K : PySem.W.Frag} {F : Hp} {σ : L2.St} {δ : List (Option D)} (h : Sl K F σ δ) : ∀ vs : List Nat, Sl K F (wipe σ vs) (wipeD δ vs)
  | [] => h
  | v :: vs => by
    unfold L2.wipe wipeD
    exact (Sl.wipe h vs).unset v

section
variable (K : PySem.W.Frag)
/-- an expression, from the slots and the cells, ends in data with which Q holds -/
def EW (te : TE) (δ : List (Option D)) (m : Mem) (Q : D → Mem → Prop) : Prop := ∀ (σ : L2.St) (H : Hp), Sl K (hide m H) σ δ → MemOk K m H → ∀ QQ : VK,
  (∀ (d : D) (m' : Mem) (v : V) (H' : Hp), Q d m' → Sub (hide m H) (hide m' H') → MemOk K m' H' → Rd K (hide m' H') v d → QQ v H') → te σ H QQ
def TW (tt : TT) (δ : List (Option D)) (m : Mem) (Q : Bool → Mem → Prop) : Prop := ∀ (σ : L2.St) (H : Hp), Sl K (hide m H) σ δ → MemOk K m H → ∀ QQ : Bool → Hp → Prop,
  (∀ (b : Bool) (m' : Mem) (H' : Hp), Q b m' → Sub (hide m H) (hide m' H') → MemOk K m' H' → QQ b H') → tt σ H QQ
def AW (ta : TA) (δ : List (Option D)) (m : Mem) (Q : List D → Mem → Prop) : Prop := ∀ (σ : L2.St) (H : Hp), Sl K (hide m H) σ δ → MemOk K m H → ∀ QQ : List V → Hp → Prop,
  (∀ (ds : List D) (m' : Mem) (vs : List V) (H' : Hp), Q ds m' → Sub (hide m H) (hide m' H') → MemOk K m' H' → RdL K (hide m' H') vs ds → QQ vs H') → ta σ H QQ
/-- an operation on two values; a call on values; a method -/
def OW (r : R2) (x y : D) (m : Mem) (Q : D → Mem → Prop) : Prop := ∀ (H : Hp) (v w : V), MemOk K m H → Rd K (hide m H) v x → Rd K (hide m H) w y → ∀ QQ : VK,
  (∀ (d : D) (m' : Mem) (u : V) (H' : Hp), Q d m' → Sub (hide m H) (hide m' H') → MemOk K m' H' → Rd K (hide m' H') u d → QQ u H') → r v w H QQ
def UW (r : V → Hp → VK → Prop) (x : D) (m : Mem) (Q : D → Mem → Prop) : Prop := ∀ (H : Hp) (v : V), MemOk K m H → Rd K (hide m H) v x → ∀ QQ : VK,
  (∀ (d : D) (m' : Mem) (u : V) (H' : Hp), Q d m' → Sub (hide m H) (hide m' H') → MemOk K m' H' → Rd K (hide m' H') u d → QQ u H') → r v H QQ
def CW (r : List V → Hp → VK → Prop) (xs : List D) (m : Mem) (Q : D → Mem → Prop) : Prop := ∀ (H : Hp) (vs : List V), MemOk K m H → RdL K (hide m H) vs xs → ∀ QQ : VK,
  (∀ (d : D) (m' : Mem) (u : V) (H' : Hp), Q d m' → Sub (hide m H) (hide m' H') → MemOk K m' H' → Rd K (hide m' H') u d → QQ u H') → r vs H QQ
/-- a method of a built-in type: the receiver, the arguments -/
def MW (r : V → List V → Hp → VK → Prop) (x : D) (xs : List D) (m : Mem) (Q : D → Mem → Prop) : Prop := ∀ (H : Hp) (v : V) (vs : List V), MemOk K m H → Rd K (hide m H) v x → RdL K (hide m H) vs xs → ∀ QQ : VK,
  (∀ (d : D) (m' : Mem) (u : V) (H' : Hp), Q d m' → Sub (hide m H) (hide m' H') → MemOk K m' H' → Rd K (hide m' H') u d → QQ u H') → r v vs H QQ

/-- what is wanted behind a statement -/
structure Ps where
  nx : List (Option D) → Mem → Prop
  rt : D → Mem → Prop
  bk : List (Option D) → Mem → Prop := fun _ _ => False
  ct : List (Option D) → Mem → Prop := fun _ _ => False
structure Meets (P : Ps) (F : Hp) (E : Ends) : Prop where
  nx : ∀ (δ : List (Option D)) (m : Mem) (σ : L2.St) (H : Hp), P.nx δ m → Sub F (hide m H) → Sl K (hide m H) σ δ → MemOk K m H → E.nx σ H
  rt : ∀ (d : D) (m : Mem) (v : V) (H : Hp), P.rt d m → Sub F (hide m H) → MemOk K m H → Rd K (hide m H) v d → E.rt v H
  bk : ∀ (δ : List (Option D)) (m : Mem) (σ : L2.St) (H : Hp), P.bk δ m → Sub F (hide m H) → Sl K (hide m H) σ δ → MemOk K m H → E.bk σ H
  ct : ∀ (δ : List (Option D)) (m : Mem) (σ : L2.St) (H : Hp), P.ct δ m → Sub F (hide m H) → Sl K (hide m H) σ δ → MemOk K m H → E.ct σ H
def SW (ts : TS) (δ : List (Option D)) (m : Mem) (P : Ps) : Prop := ∀ (σ : L2.St) (H : Hp), Sl K (hide m H) σ δ → MemOk K m H → ∀ E : Ends, Meets K P (hide m H) E → ts E σ H
end
section
variable {K : PySem.W.Frag} {δ : List (Option D)} {m : Mem} {Q : D → Mem → Prop} {te ta tb tc : TE} {P : Ps} {t u : TS} {tt tu : TT} {F F' : Hp} {E : Ends}
theorem Meets.mono (h : Meets K P F E) (e : Sub F F') : Meets K P F' E :=
  ⟨fun δ m σ H a b => h.nx δ m σ H a (e.trans b), fun δ m σ H a b => h.rt δ m σ H a (e.trans b), fun δ m σ H a b => h.bk δ m σ H a (e.trans b), fun δ m σ H a b => h.ct δ m σ H a (e.trans b)⟩

/-! ### expressions -/
theorem EW.imp {Q' : D → Mem → Prop} (h : EW K te δ m Q) (k : ∀ d m', Q d m' → Q' d m') : EW K te δ m Q' := fun σ H s M QQ q => h σ H s M QQ fun d m' v H' a => q d m' v H' (k d m' a)
theorem ew_var {i : Nat} {d : D} (h : δ[i]? = some (some d)) (q : Q d m) : EW K (tVar i) δ m Q := fun σ H s M QQ k => by
  obtain ⟨v, a, r⟩ := s.at_ i d h
  exact ⟨v, a, k d m v H q (Sub.refl _) M r⟩
theorem ew_non (q : Q .non m) : EW K (tC .non) δ m Q := fun σ H s M QQ k => k _ m _ H q (Sub.refl _) M .non
theorem ew_bl {b : Bool} (q : Q (.bl b) m) : EW K (tC (.bl b)) δ m Q := fun σ H s M QQ k => k _ m _ H q (Sub.refl _) M (.bl b)
theorem ew_int {b : Int} (q : Q (.int b) m) : EW K (tC (.int b)) δ m Q := fun σ H s M QQ k => k _ m _ H q (Sub.refl _) M (.int b)
theorem ew_str {b : Str} (q : Q (.str b) m) : EW K (tC (.str b)) δ m Q := fun σ H s M QQ k => k _ m _ H q (Sub.refl _) M (.str b)
theorem ew_op {r : R2} (h : EW K ta δ m fun x m1 => EW K tb δ m1 fun y m2 => OW K r x y m2 Q) : EW K (tOp r ta tb) δ m Q := fun σ H s M QQ k =>
  h σ H s M _ fun x m1 v1 H1 q1 s1 M1 r1 => q1 σ H1 (s.mono s1) M1 _ fun y m2 v2 H2 q2 s2 M2 r2 => q2 H2 v1 v2 M2 (r1.mono s2) r2 _ fun d m3 v3 H3 q3 s3 M3 r3 => k d m3 v3 H3 q3 (s1.trans (s2.trans s3)) M3 r3
theorem ew_un {r : V → Hp → VK → Prop} (h : EW K ta δ m fun x m1 => UW K r x m1 Q) : EW K (tUn r ta) δ m Q := fun σ H s M QQ k =>
  h σ H s M _ fun x m1 v1 H1 q1 s1 M1 r1 => q1 H1 v1 M1 r1 _ fun d m3 v3 H3 q3 s3 M3 r3 => k d m3 v3 H3 q3 (s1.trans s3) M3 r3
theorem aw_nil {Q : List D → Mem → Prop} (q : Q [] m) : AW K tNil δ m Q := fun σ H s M QQ k => k [] m [] H q (Sub.refl _) M .nil
theorem aw_cons {tr : TA} {Q : List D → Mem → Prop} (h : EW K te δ m fun x m1 => AW K tr δ m1 fun xs m2 => Q (x :: xs) m2) : AW K (tCons te tr) δ m Q := fun σ H s M QQ k =>
  h σ H s M _ fun x m1 v1 H1 q1 s1 M1 r1 => q1 σ H1 (s.mono s1) M1 _ fun ds m2 vs H2 q2 s2 M2 r2 => k (x :: ds) m2 (v1 :: vs) H2 q2 (s1.trans s2) M2 (.cons (r1.mono s2) r2)
theorem ew_cb {r : List V → Hp → VK → Prop} {t : TA} (h : AW K t δ m fun xs m1 => CW K r xs m1 Q) : EW K (tCB r t) δ m Q := fun σ H s M QQ k =>
  h σ H s M _ fun ds m1 vs H1 q1 s1 M1 r1 => q1 H1 vs M1 r1 _ fun d m2 v2 H2 q2 s2 M2 r2 => k d m2 v2 H2 q2 (s1.trans s2) M2 r2
/-- a still tuple; a still list; a list that may change -/
theorem ew_tup {t : TA} (h : AW K t δ m fun xs m1 => xs.length ≤ sizeLine ∧ Q (.tup xs) m1) : EW K (tTup t) δ m Q := fun σ H s M QQ k =>
  h σ H s M _ fun ds m1 vs H1 q1 s1 M1 r1 => ⟨by rw [r1.length]; exact q1.1, fun p hp => by
    obtain ⟨M2, s2⟩ := M1.new (o := .tup vs) hp
    refine k (.tup ds) m1 (.ref p) _ q1.2 (s1.trans s2) M2 (.tup ?_ (r1.mono s2))
    rw [hide_new M1 hp]
    exact .inl (.inl upd_same)⟩
theorem ew_lst {t : TA} (h : AW K t δ m fun xs m1 => xs.length ≤ sizeLine ∧ Q (.lst xs) m1) : EW K (tLst t) δ m Q := fun σ H s M QQ k =>
  h σ H s M _ fun ds m1 vs H1 q1 s1 M1 r1 => ⟨by rw [r1.length]; exact q1.1, fun p hp => by
    obtain ⟨M2, s2⟩ := M1.new (o := .lst vs) hp
    refine k (.lst ds) m1 (.ref p) _ q1.2 (s1.trans s2) M2 (.lst ?_ (r1.mono s2))
    rw [hide_new M1 hp]
    exact upd_same⟩
theorem ew_lstM {t : TA} (h : AW K t δ m fun xs m1 => xs.length ≤ sizeLine ∧ ∀ p, Q (.adr p) (m1 ++ [(p, .lst xs)])) : EW K (tLst t) δ m Q := fun σ H s M QQ k =>
  h σ H s M _ fun ds m1 vs H1 q1 s1 M1 r1 => ⟨by rw [r1.length]; exact q1.1, fun p hp => by
    have e : hide (m1 ++ [(p, Cell.lst ds)]) (upd H1 p (.lst vs)) = hide m1 H1 := hide_cell hp
    exact k (.adr p) (m1 ++ [(p, .lst ds)]) (.ref p) _ (q1.2 p) (by rw [e]; exact s1) (M1.cell (c := .lst ds) hp ⟨vs, upd_same, r1⟩) (.adr p)⟩
theorem ew_if (h : TW K tt δ m fun b m1 => if b = true then EW K ta δ m1 Q else EW K tb δ m1 Q) : EW K (tIf tt ta tb) δ m Q := fun σ H s M QQ k =>
  h σ H s M _ fun b m1 H1 q1 s1 M1 => by
    cases b with
    | true => exact (show EW K ta δ m1 Q from q1) σ H1 (s.mono s1) M1 QQ fun d m2 v2 H2 q2 s2 M2 r2 => k d m2 v2 H2 q2 (s1.trans s2) M2 r2
    | false => exact (show EW K tb δ m1 Q from q1) σ H1 (s.mono s1) M1 QQ fun d m2 v2 H2 q2 s2 M2 r2 => k d m2 v2 H2 q2 (s1.trans s2) M2 r2
theorem ew_andV (h : EW K ta δ m fun x m1 => ∃ b, x = .bl b ∧ if b = true then EW K tb δ m1 Q else Q (.bl false) m1) : EW K (tAndV ta tb) δ m Q := fun σ H s M QQ k =>
  h σ H s M _ fun x m1 v1 H1 ⟨b, e, q1⟩ s1 M1 r1 => by
    subst e
    cases r1
    refine ⟨b, rfl, ?_⟩
    cases b with
    | true => exact (show EW K tb δ m1 Q from q1) σ H1 (s.mono s1) M1 QQ fun d m2 v2 H2 q2 s2 M2 r2 => k d m2 v2 H2 q2 (s1.trans s2) M2 r2
    | false => exact k _ m1 _ H1 q1 s1 M1 (.bl false)
theorem ew_orV (h : EW K ta δ m fun x m1 => ∃ b, x = .bl b ∧ if b = true then Q (.bl true) m1 else EW K tb δ m1 Q) : EW K (tOrV ta tb) δ m Q := fun σ H s M QQ k =>
  h σ H s M _ fun x m1 v1 H1 ⟨b, e, q1⟩ s1 M1 r1 => by
    subst e
    cases r1
    refine ⟨b, rfl, ?_⟩
    cases b with
    | false => exact (show EW K tb δ m1 Q from q1) σ H1 (s.mono s1) M1 QQ fun d m2 v2 H2 q2 s2 M2 r2 => k d m2 v2 H2 q2 (s1.trans s2) M2 r2
    | true => exact k _ m1 _ H1 q1 s1 M1 (.bl true)
theorem ew_notV (h : EW K ta δ m fun x m1 => ∃ b, x = .bl b ∧ Q (.bl (!b)) m1) : EW K (tNotV ta) δ m Q := fun σ H s M QQ k =>
  h σ H s M _ fun x m1 v1 H1 ⟨b, e, q1⟩ s1 M1 r1 => by
    subst e
    cases r1
    exact ⟨b, rfl, k _ m1 _ H1 q1 s1 M1 (.bl _)⟩
theorem ew_chain {r r' : R2} (h : EW K ta δ m fun x m1 => EW K tb δ m1 fun y m2 => OW K r x y m2 fun z m3 => ∃ b, z = .bl b ∧ if b = true then EW K tc δ m3 fun w m4 => OW K r' y w m4 Q else Q (.bl false) m3) : EW K (tChain r r' ta tb tc) δ m Q := fun σ H s M QQ k =>
  h σ H s M _ fun x m1 v1 H1 q1 s1 M1 r1 => q1 σ H1 (s.mono s1) M1 _ fun y m2 v2 H2 q2 s2 M2 r2 => q2 H2 v1 v2 M2 (r1.mono s2) r2 _ fun d m3 v3 H3 ⟨b, e, q3⟩ s3 M3 r3 => by
    subst e
    cases r3
    refine ⟨b, rfl, ?_⟩
    cases b with
    | true => exact (show EW K tc δ m3 _ from q3) σ H3 (s.mono (s1.trans (s2.trans s3))) M3 _ fun w m4 v4 H4 q4 s4 M4 r4 => q4 H4 v2 v4 M4 (r2.mono (s3.trans s4)) r4 _ fun d m5 v5 H5 q5 s5 M5 r5 => k d m5 v5 H5 q5 ((s1.trans (s2.trans s3)).trans (s4.trans s5)) M5 r5
    | false => exact k _ m3 _ H3 q3 (s1.trans (s2.trans s3)) M3 (.bl false)

/-! ### tests -/
theorem tw_test {Q : Bool → Mem → Prop} (h : EW K te δ m fun x m1 => ∃ b, x = .bl b ∧ Q b m1) : TW K (tTest te) δ m Q := fun σ H s M QQ k =>
  h σ H s M _ fun x m1 v1 H1 ⟨b, e, q1⟩ s1 M1 r1 => by
    subst e
    cases r1
    exact ⟨b, rfl, k b m1 H1 q1 s1 M1⟩
theorem tw_B {Q : Bool → Mem → Prop} (h : EW K te δ m fun x m1 => ∃ b, x = .bl b ∧ Q b m1) : TW K (tB te) δ m Q := fun σ H s M QQ k =>
  h σ H s M _ fun x m1 v1 H1 ⟨b, e, q1⟩ s1 M1 r1 => by
    subst e
    cases r1
    exact ⟨b, rfl, k b m1 H1 q1 s1 M1⟩
theorem tw_and {Q : Bool → Mem → Prop} (h : TW K tt δ m fun b m1 => if b = true then TW K tu δ m1 Q else Q false m1) : TW K (tAnd tt tu) δ m Q := fun σ H s M QQ k =>
  h σ H s M _ fun b m1 H1 q1 s1 M1 => by
    cases b with
    | true => exact (show TW K tu δ m1 Q from q1) σ H1 (s.mono s1) M1 QQ fun b m2 H2 q2 s2 M2 => k b m2 H2 q2 (s1.trans s2) M2
    | false => exact k false m1 H1 q1 s1 M1
theorem tw_or {Q : Bool → Mem → Prop} (h : TW K tt δ m fun b m1 => if b = true then Q true m1 else TW K tu δ m1 Q) : TW K (tOr tt tu) δ m Q := fun σ H s M QQ k =>
  h σ H s M _ fun b m1 H1 q1 s1 M1 => by
    cases b with
    | false => exact (show TW K tu δ m1 Q from q1) σ H1 (s.mono s1) M1 QQ fun b m2 H2 q2 s2 M2 => k b m2 H2 q2 (s1.trans s2) M2
    | true => exact k true m1 H1 q1 s1 M1
theorem tw_not {Q : Bool → Mem → Prop} (h : TW K tt δ m fun b m1 => Q (!b) m1) : TW K (tNot tt) δ m Q := fun σ H s M QQ k => h σ H s M _ fun b m1 H1 q1 s1 M1 => k (!b) m1 H1 q1 s1 M1

/-! ### statements -/
theorem sw_seq (h : SW K t δ m { P with nx := fun δ' m' => SW K u δ' m' P }) : SW K (tSeq t u) δ m P := fun σ H s M E k =>
  h σ H s M { E with nx := u E } ⟨fun δ' m' σ' H' q e s' M' => q σ' H' s' M' E (k.mono e), k.rt, k.bk, k.ct⟩
theorem sw_next (q : P.nx δ m) : SW K tNext δ m P := fun σ H s M E k => k.nx δ m σ H q (Sub.refl _) s M
theorem sw_break (q : P.bk δ m) : SW K tBreak δ m P := fun σ H s M E k => k.bk δ m σ H q (Sub.refl _) s M
theorem sw_cont (q : P.ct δ m) : SW K tCont δ m P := fun σ H s M E k => k.ct δ m σ H q (Sub.refl _) s M
theorem sw_drop (h : EW K te δ m fun _ m1 => P.nx δ m1) : SW K (tDrop te) δ m P := fun σ H s M E k => h σ H s M _ fun d m1 v1 H1 q1 s1 M1 r1 => k.nx δ m1 σ H1 q1 s1 (s.mono s1) M1
theorem sw_ret (h : EW K te δ m P.rt) : SW K (tRet te) δ m P := fun σ H s M E k => h σ H s M _ fun d m1 v1 H1 q1 s1 M1 r1 => k.rt d m1 v1 H1 q1 s1 M1 r1
theorem sw_retN (q : P.rt .non m) : SW K tRetN δ m P := fun σ H s M E k => k.rt .non m .non H q (Sub.refl _) M .non
theorem sw_if (h : TW K tt δ m fun b m1 => if b = true then SW K t δ m1 P else SW K u δ m1 P) : SW K (tIfS tt t u) δ m P := fun σ H s M E k =>
  h σ H s M _ fun b m1 H1 q1 s1 M1 => by
    cases b with
    | true => exact (show SW K t δ m1 P from q1) σ H1 (s.mono s1) M1 E (k.mono s1)
    | false => exact (show SW K u δ m1 P from q1) σ H1 (s.mono s1) M1 E (k.mono s1)
theorem sw_asg {i : Nat} (h : EW K te δ m fun d m1 => P.nx (δ.set i (some d)) m1) : SW K (tAsg te (gName i)) δ m P := fun σ H s M E k =>
  h σ H s M _ fun d m1 v1 H1 q1 s1 M1 r1 => k.nx _ m1 _ H1 q1 s1 ((s.mono s1).set i r1) M1
/-- what holds in between is told once -/
theorem sw_mid {P' : Ps} (h : SW K t δ m P') (n : ∀ δ' m', P'.nx δ' m' → P.nx δ' m') (r : ∀ d m', P'.rt d m' → P.rt d m') (b : ∀ δ' m', P'.bk δ' m' → P.bk δ' m') (c : ∀ δ' m', P'.ct δ' m' → P.ct δ' m') : SW K t δ m P := fun σ H s M E k =>
  h σ H s M E ⟨fun δ' m' σ' H' q => k.nx δ' m' σ' H' (n _ _ q), fun δ' m' σ' H' q => k.rt δ' m' σ' H' (r _ _ q), fun δ' m' σ' H' q => k.bk δ' m' σ' H' (b _ _ q), fun δ' m' σ' H' q => k.ct δ' m' σ' H' (c _ _ q)⟩
end
end DL

set_option Elab.async false
set_option linter.all false
set_option maxRecDepth 100000
set_option autoImplicit false
namespace DL
open PySem PySem.Spec PyProof.Rows L2

/-! ### what a def promises, in data -/
abbrev FS := List D → Mem → (D → Mem → Prop) → Prop
def spOf (K : PySem.W.Frag) (Pf : FS) : Sp := fun vs H Q _ => ∃ (ds : List D) (m : Mem) (QS : D → Mem → Prop), RdL K (hide m H) vs ds ∧ MemOk K m H ∧ Pf ds m QS ∧
  ∀ (d : D) (m' : Mem) (v : V) (H' : Hp), QS d m' → Sub (hide m H) (hide m' H') → MemOk K m' H' → Rd K (hide m' H') v d → Q v H'
def startD (n : Nat) (ds : List D) : List (Option D) := ds.map some ++ List.replicate (n - ds.length) none
theorem sl_start {K : PySem.W.Frag} {F : Hp} {N : List Str} {vs : List V} {ds : List D} (r : RdL K F vs ds) : Sl K F (L2.start N vs) (startD N.length ds) := by
  have l := r.length
  refine ⟨by simp [L2.start, startD, l], fun i d e => ?_⟩
  unfold startD at e
  unfold L2.start
  by_cases h : i < ds.length
  · rw [List.getElem?_append_left (by simpa using h), List.getElem?_map] at e
    rw [List.getElem?_append_left (by simpa [l] using h), List.getElem?_map]
    cases q : ds[i]? with
    | none => rw [q] at e; cases e
    | some x =>
      rw [q] at e
      cases e
      obtain ⟨v, a, b⟩ := r.get q
      exact ⟨v, by rw [a] <;> rfl, b⟩
  · rw [List.getElem?_append_right (by simpa using h), List.getElem?_replicate] at e
    split at e <;> cases e
section
variable {P : Program} {w : World} {K : PySem.W.Frag} {mg : Str → Option Value} {base : Heap}
/-- a def of the text as it stands behind the top, whatever its defaults are -/
structure Fnc (K : PySem.W.Frag) (x qual : Str) (st : Stmt) (f : Addr) (fd : FuncData) : Prop where
  is : ∃ (oc : Value) (od : Option Addr) (dV kV dc pm : Value) (an : Option Addr) (cd ct : Value) (sl : Array (Option Value)),
    fd = PySem.W.fnOf x qual (defArgs st) (defBody st) (defScope st) dV kV dc pm an cd ct ∧ PySem.W.codeIn K cd qual = true ∧ K.lookup f = some ⟨oc, od, .func fd, sl⟩
theorem okD {x qual : Str} {st : Stmt} {f : Addr} {fd : FuncData} {N ps : List Str} {k : Nat} {Pf : FS} (F : Fnc K x qual st f fd) (S : FnScope N ps (defScope st)) {t : TS}
    (hlen : ∀ ds m Q, Pf ds m Q → ds.length = ps.length)
    (hd : ∀ (cdv : Value) (A : Around) (outer : List Env) (s : Shared) (H : Hp) (E : XK), Room k (A.deeper (envOfC qual (defScope st) s.heap.objs.size f cdv)) → PSs (cxOf CX0 P w K mg base N qual (defScope st) f cdv A outer s H E).nox (defBody st) t)
    (hs : ∀ ds m (Q : D → Mem → Prop), Pf ds m Q → SW K t (startD N.length ds) m { nx := fun _ m' => Q .non m', rt := Q }) : FnOk P w K mg base CX0 (k + 1) f fd ps (spOf K Pf) := by
  obtain ⟨oc, od, dV, kV, dc, pm, an, cd, ct, sl, rfl, hcd, lk⟩ := F.is
  refine fn_of lk hcd S (fun vs H Q E h => ?_) (fun A outer s H vs Q E hr h => ⟨t, (hd cd A outer s H E hr).nox, ?_⟩)
  · obtain ⟨ds, m, QS, r, _, p, _⟩ := h
    rw [r.length]
    exact hlen _ _ _ p
  · obtain ⟨ds, m, QS, r, M, p, k⟩ := h
    exact hs ds m QS p _ _ (sl_start r) M _ ⟨fun δ' m' σ' H' q e s' M' => k .non m' .non H' q e M' .non, fun d m' v H' q e M' r' => k d m' v H' q e M' r', fun _ _ _ _ q => q.elim, fun _ _ _ _ q => q.elim⟩
end
section
variable {K : PySem.W.Frag} {δ : List (Option D)} {m : Mem} {Q : D → Mem → Prop} {t : TA} {Pf : FS} {E : XK}
theorem ew_call0 (h : AW K t δ m fun ds m1 => Pf ds m1 Q) : EW K (tCall (spOf K Pf) [] E t) δ m Q := fun σ H s M QQ k =>
  h σ H s M _ fun ds m1 vs H1 q1 s1 M1 r1 => ⟨ds, m1, Q, by rw [List.append_nil]; exact r1, M1, q1, fun d m' v H' q e M' r => k d m' v H' q (s1.trans e) M' r⟩
end

/-! ### the same where it is known that no guard is up (repr wants that) -/
structure FnG (P : Program) (w : World) (K : PySem.W.Frag) (mg : Str → Option Value) (base : Heap) (k : Nat) (f : Addr) (fd : FuncData) (ps : List Str) (sp : Sp) : Prop where
  long : ∀ vs H Q E, sp vs H Q E → vs.length = ps.length
  go : ∀ (A : Around) (up : List Env) (s : Shared) (H : Hp) (args : Args) (us : List Value) (vs : List V) (Q : VK), A.guards = some [] → Room k A → Env0 P w K mg base A up s H → BindsTo s fd args (ps.zip us) → Vals vs us → sp vs H Q E0 →
    codeAny (model P w) A (.call (.ref f) args) (CR CX0 up P w H s Q E0) s
section
variable {P : Program} {w : World} {K : PySem.W.Frag} {mg : Str → Option Value} {base : Heap} {f : Addr} {fd : FuncData} {ps : List Str} {sp : Sp} {k : Nat}
theorem FnG.of (F : FnOk P w K mg base CX0 k f fd ps sp) : FnG P w K mg base k f fd ps sp := ⟨F.len, fun A up s H args us vs Q _ hr => F.run A up s H args us vs Q E0 hr⟩
theorem FnG.up {j : Nat} (F : FnG P w K mg base j f fd ps sp) (h : j ≤ k) : FnG P w K mg base k f fd ps sp := ⟨F.long, fun A up s H args us vs Q hg hr => F.go A up s H args us vs Q hg (hr.mono h)⟩
/-- a def, by its body, entered where no guard is up -/
theorem fn_inG {name qual : Str} {params : Arguments} {body : List Stmt} {scope : Scope} {dV kV doc pm cdv ct oc : Value} {an od : Option Addr} {osl : Array (Option Value)} {N : List Str}
    (lk : K.lookup f = some ⟨oc, od, .func (PySem.W.fnOf name qual params body scope dV kV doc pm an cdv ct), osl⟩) (hcd : PySem.W.codeIn K cdv qual = true) (S : FnScope N ps scope) (long : ∀ vs H Q E, sp vs H Q E → vs.length = ps.length)
    (hb : ∀ (A : Around) (up : List Env) (s : Shared) (H : Hp) (vs : List V) (Q : VK), A.guards = some [] → Room k (A.deeper (envOfC qual scope s.heap.objs.size f cdv)) → sp vs H Q E0 →
      ∃ t, PSs (cxOf CX0 P w K mg base N qual scope f cdv A up s H E0) body t ∧ t { nx := fun _ H' => Q .non H', rt := Q } (L2.start N vs) H) :
    FnG P w K mg base (k + 1) f (PySem.W.fnOf name qual params body scope dV kV doc pm an cdv ct) ps sp := by
  refine ⟨long, ?_⟩
  intro A up s H args us vs Q hg room e0 bind rel wish
  have n1 := long vs H Q E0 wish
  have kin : K.In s.heap := e0.mod.kin.keeps fun b o q => (e0.bs b o q).1
  have hlim : s.heap.NoLimit := e0.mod.nolimit.keeps fun b o q => (e0.bs b o q).1
  have kinds : ∀ y ∈ ps.zip us, scope.names.lookup y.1 = some .local ∨ (scope.names.lookup y.1 = some .cell ∧ ((cellsFrom (s.heap.objs.size + 1) scope.names []).lookup y.1).isSome = true) := by
    rintro ⟨n, v⟩ hy
    cases S.par n (List.of_mem_zip hy).1 with
    | inl a => exact Or.inl a
    | inr a => exact Or.inr ⟨a, PySem.W.cellsFrom_some _ _ _ (Or.inl a)⟩
  have enter := hb A up s H vs Q hg (room.deeper _) wish
  obtain ⟨t, der, rdg⟩ := enter
  apply codeAny_call_function room.depth (kin _ _ lk) rfl S.co S.gen rfl (PySem.W.codeRec_of kin hcd)
  apply bind
  apply wpAny_newFunctionEnv_cells S.kind kinds
  intro env he s1 x
  cases he
  refine ⟨hlim.keeps x.toInCall.keep, ?_⟩
  apply codeAny_func
  have inv : Inv (cxOf CX0 P w K mg base N qual scope f cdv A up s H E0) [] (L2.start N vs) H s1 := inv_start S room.hd e0 n1 rel x
  apply wpAny_mono (der.run [] s1 (L2.start N vs) H _ inv rdg)
  · intro fl s2 q
    have close : ∀ (σ2 : L2.St) (H2 : Hp) (v : V) (u : Value), Inv (cxOf CX0 P w K mg base N qual scope f cdv A up s H E0) [] σ2 H2 s2 → RelV v u → Q v H2 → CE up P w H s Q u s2 := fun σ2 H2 v u J a b => ⟨v, H2, J.os, J.bare, J.base, J.hok, a, b⟩
    match fl, q with
    | .ret u, ⟨v, σ2, H2, J, a, b⟩ => exact close σ2 H2 v u J a b
    | .next, ⟨σ2, H2, J, b⟩ => exact close σ2 H2 V.non Value.none J rfl b
    | .brk, ⟨_, _, _, b⟩ => exact b.elim
    | .cont, ⟨_, _, _, b⟩ => exact b.elim
  · intro e s2 q
    exact q
theorem okG {x qual : Str} {st : Stmt} {N : List Str} {Pf : FS} (F : Fnc K x qual st f fd) (S : FnScope N ps (defScope st)) {t : TS}
    (hlen : ∀ ds m Q, Pf ds m Q → ds.length = ps.length)
    (hd : ∀ (cdv : Value) (A : Around) (outer : List Env) (s : Shared) (H : Hp), A.guards = some [] → Room k (A.deeper (envOfC qual (defScope st) s.heap.objs.size f cdv)) → PSs (cxOf CX0 P w K mg base N qual (defScope st) f cdv A outer s H E0).nox (defBody st) t)
    (hs : ∀ ds m (Q : D → Mem → Prop), Pf ds m Q → SW K t (startD N.length ds) m { nx := fun _ m' => Q .non m', rt := Q }) : FnG P w K mg base (k + 1) f fd ps (spOf K Pf) := by
  obtain ⟨oc, od, dV, kV, dc, pm, an, cd, ct, sl, rfl, hcd, lk⟩ := F.is
  refine fn_inG lk hcd S (fun vs H Q E h => ?_) (fun A outer s H vs Q hg hr h => ⟨t, (hd cd A outer s H hg hr).nox, ?_⟩)
  · obtain ⟨ds, m, QS, r, _, p, _⟩ := h
    rw [r.length]
    exact hlen _ _ _ p
  · obtain ⟨ds, m, QS, r, M, p, k⟩ := h
    exact hs ds m QS p _ _ (sl_start r) M _ ⟨fun δ' m' σ' H' q e s' M' => k .non m' .non H' q e M' .non, fun d m' v H' q e M' r' => k d m' v H' q e M' r', fun _ _ _ _ q => q.elim, fun _ _ _ _ q => q.elim⟩
end
section
variable {X : Cx} {k : Nat} {f : Addr} {fd : FuncData} {ps : List Str} {sp : Sp} {dvs : List V} {ds : List Value} {x : Str} {p pos : Pos} {e : Expr} {es : List Expr} {t : TA}
theorem pe_callG (hg0 : X.A.guards = some []) (F : FnG X.prog X.w X.K X.mg X.base k f fd ps sp) (hr : Room k X.A) (hg : Gl X x) (hm : X.mg x = some (.ref f)) (hk : PySem.W.keepIn X.K (.ref f) = true) (hb : Binds X.K fd ps ds) (hd : Vals dvs ds)
    (ha : PA X (e :: es) t) (hdb : (x == ("__debug__" : Str)) = false := by decide) (he : starEach (e :: es) X.env = (false, eval e X.env) :: starEach es X.env := by rfl) (hpl : (backTo pos (starEach es X.env)).any (·.1) = false := by rfl) :
    PE X (.Call (.Name x p) (e :: es) [] pos) (tCall sp dvs E0 t) := by
  constructor
  intro pins s σ H Q I h
  apply wpAny_Call_Name_kw
  refine ld_glob I hg hm ?_ hdb
  apply PySem.W.callWith_K (h₀ := X.base) I.ok.mod.kin hk _ he hpl
  refine thn (ha.run pos pins s σ H _ I h) ?_
  rintro us s1 ⟨vs, H1, I1, r, q⟩
  refine ⟨I1.kIn, ?_⟩
  have rr : Vals (vs ++ dvs) (us ++ ds) := r.append hd
  have hl : (us ++ ds).length = ps.length := rr.length.symm.trans (F.long _ _ _ _ q)
  apply wpAny_call
  refine codeAny_mono (F.go X.A X.stack s1 H1 ⟨us, []⟩ (us ++ ds) (vs ++ dvs) Q hg0 hr I1.env0 (hb s1 us I1.kIn hl) rr q) ?_
  intro res s2 c
  match res, c with
  | .error _, c => exact c.elim
  | .ok (.ret u), c => exact I1.after c
  | .ok .next, c => exact c.elim
  | .ok .brk, c => exact c.elim
  | .ok .cont, c => exact c.elim
end
end DL

set_option Elab.async false
set_option linter.all false
set_option maxRecDepth 100000
set_option maxHeartbeats 1000000
set_option autoImplicit false
namespace DL
open PySem PySem.Spec PyProof.Rows L2

/-! ### data that may be compared and shown -/
def D.fl : Nat → D → Bool
  | _, .non => true
  | _, .bl _ => true
  | _, .int _ => true
  | _, .str x => PyData.strOk x
  | n + 1, .lst xs => xs.all (D.fl n)
  | n + 1, .tup xs => xs.all (D.fl n)
  | _, _ => false
mutual
def D.py : D → PyData
  | .non => .none
  | .bl b => .bool b
  | .int i => .int i
  | .str x => .str x
  | .lst xs => .list (D.pyL xs)
  | .tup xs => .tuple (D.pyL xs)
  | .dic kvs => .dict (D.pyK kvs)
  | _ => .none
def D.pyL : List D → List PyData
  | [] => []
  | x :: xs => D.py x :: D.pyL xs
def D.pyK : List (Key × D) → List (PyData × PyData)
  | [] => []
  | (k, x) :: xs => ((match k with | .inl i => PyData.int i | .inr s => PyData.str s), D.py x) :: D.pyK xs
end
theorem pyL_map : ∀ xs : List D, D.pyL xs = xs.map D.py
  | [] => rfl
  | x :: xs => by rw [D.pyL, List.map_cons, pyL_map xs]
section
variable {K : PySem.W.Frag} {F : Hp}
theorem Rd.dp : ∀ (n : Nat) (d : D) (v : V), d.fl n = true → Rd K F v d → Dp K F v d.py := by
  intro n
  induction n with
  | zero =>
    intro d v h r
    cases r with
    | non => exact .non
    | bl b => exact .bl b
    | int i => exact .int i
    | str x => exact .str x
    | _ => simp [D.fl] at h
  | succ n ih =>
    have all : ∀ (ds : List D) (vs : List V), ds.all (D.fl n) = true → RdL K F vs ds → DpAll K F vs (D.pyL ds) := by
      intro ds
      induction ds with
      | nil => intro vs _ r; cases r; exact .nil
      | cons d ds ihl =>
        intro vs h r
        cases r with
        | cons r1 r2 =>
          rw [List.all_cons, Bool.and_eq_true] at h
          exact .cons (ih d _ h.1 r1) (ihl _ h.2 r2)
    intro d v h r
    cases r with
    | non => exact .non
    | bl b => exact .bl b
    | int i => exact .int i
    | str x => exact .str x
    | lst e r => exact .lst (SqL.of e) (all _ _ h r)
    | tup e r => exact .tup e (all _ _ h r)
    | _ => simp [D.fl] at h
end
theorem fl_shaped : ∀ (n : Nat) (d : D), d.fl n = true → d.py.canLay0 = true ∧ d.py.depth ≤ n := by
  intro n
  induction n with
  | zero => intro d h; cases d <;> simp_all [D.fl, D.py, PyData.canLay0, PyData.depth]
  | succ n ih =>
    have all : ∀ ds : List D, ds.all (D.fl n) = true → PyData.canLayAll0 (D.pyL ds) = true ∧ PyData.depthAll (D.pyL ds) ≤ n := by
      intro ds
      induction ds with
      | nil => intro _; simp [D.pyL, PyData.canLayAll0, PyData.depthAll]
      | cons d ds ihl =>
        intro h
        rw [List.all_cons, Bool.and_eq_true] at h
        have a := ih d h.1
        have b := ihl h.2
        simp only [D.pyL, PyData.canLayAll0, PyData.depthAll, Bool.and_eq_true]
        exact ⟨⟨a.1, b.1⟩, by omega⟩
    intro d h
    cases d with
    | lst xs =>
      have := all xs h
      simp only [D.py, PyData.canLay0, PyData.depth]
      exact ⟨this.1, by omega⟩
    | tup xs =>
      have := all xs h
      simp only [D.py, PyData.canLay0, PyData.depth]
      exact ⟨this.1, by omega⟩
    | _ => simp_all [D.fl, D.py, PyData.canLay0, PyData.depth]
theorem fl_ok {n : Nat} {d : D} (h : d.fl n = true) (hn : n ≤ 64) : SeqAt.shaped d.py = true := by
  have := fl_shaped n d h
  show (d.py.canLay0 && decide (d.py.depth ≤ 64)) = true
  rw [this.1, decide_eq_true (by omega)]
  rfl
section
variable {K : PySem.W.Frag} {δ : List (Option D)} {m : Mem} {Q : D → Mem → Prop} {te ta tb tc : TE}
theorem Rd.top {H : Hp} {v : V} {d : D} (r : Rd K (hide m H) v d) : Rd K H v d := r.mono hide_le
/-! ### operations whose answer is a plain value -/
theorem ow_or1 {r r' : R2} {x y : D} (h : OW K r x y m Q) : OW K (fun x y H Q => r x y H Q ∨ r' x y H Q) x y m Q := fun H v w M a b QQ k => .inl (h H v w M a b QQ k)
theorem ow_or2 {r r' : R2} {x y : D} (h : OW K r' x y m Q) : OW K (fun x y H Q => r x y H Q ∨ r' x y H Q) x y m Q := fun H v w M a b QQ k => .inr (h H v w M a b QQ k)
theorem cw_or1 {r r' : List V → Hp → VK → Prop} {xs : List D} (h : CW K r xs m Q) : CW K (fun x H Q => r x H Q ∨ r' x H Q) xs m Q := fun H v M a QQ k => .inl (h H v M a QQ k)
theorem cw_or2 {r r' : List V → Hp → VK → Prop} {xs : List D} (h : CW K r' xs m Q) : CW K (fun x H Q => r x H Q ∨ r' x H Q) xs m Q := fun H v M a QQ k => .inr (h H v M a QQ k)
theorem ow_i0 {g : Int → Int → Int} {i j : Int} (q : Q (.int (g i j)) m) : OW K (rI0 fun i j => V.int (g i j)) (.int i) (.int j) m Q := fun H v w M a b QQ k => by
  cases a; cases b
  exact ⟨i, j, rfl, rfl, k _ m _ H q (Sub.refl _) M (.int _)⟩
theorem ow_b0 {g : Int → Int → Bool} {i j : Int} (q : Q (.bl (g i j)) m) : OW K (rI0 fun i j => V.bl (g i j)) (.int i) (.int j) m Q := fun H v w M a b QQ k => by
  cases a; cases b
  exact ⟨i, j, rfl, rfl, k _ m _ H q (Sub.refl _) M (.bl _)⟩
theorem ow_ic {C : Int → Int → Prop} {g : Int → Int → Int} {i j : Int} (c : C i j) (q : Q (.int (g i j)) m) : OW K (rI C fun i j => V.int (g i j)) (.int i) (.int j) m Q := fun H v w M a b QQ k => by
  cases a; cases b
  exact ⟨i, j, rfl, rfl, c, k _ m _ H q (Sub.refl _) M (.int _)⟩
theorem uw_neg {i : Int} (q : Q (.int (-i)) m) : UW K (rU fun i => V.int (-i)) (.int i) m Q := fun H v M a QQ k => by
  cases a
  exact ⟨i, rfl, k _ m _ H q (Sub.refl _) M (.int _)⟩
def rAddS : R2 := fun x y H Q => ∃ i j, x = .str i ∧ y = .str j ∧ i.length + j.length ≤ sizeLine ∧ Q (.str (i ++ j)) H
def rAddU : R2 := fun x y H Q => rI0 (fun i j => .int (i + j)) x y H Q ∨ (rAddS x y H Q ∨ rCat x y H Q)
theorem op_addU {X : Cx} : OpR X (binaryOp .Add) rAddU := OpR.or op_add (OpR.or op_add_str op_cat)
theorem ow_addI {i j : Int} (q : Q (.int (i + j)) m) : OW K rAddU (.int i) (.int j) m Q := ow_or1 (ow_i0 (g := fun i j => i + j) q)
theorem ow_addS {i j : Str} (h : i.length + j.length ≤ sizeLine) (q : Q (.str (i ++ j)) m) : OW K rAddU (.str i) (.str j) m Q := fun H v w M a b QQ k => by
  cases a; cases b
  exact .inr (.inl ⟨i, j, rfl, rfl, h, k _ m _ H q (Sub.refl _) M (.str _)⟩)
theorem new_lst {H : Hp} {p : Addr} {vs : List V} {ds : List D} (M : MemOk K m H) (r : RdL K (hide m H) vs ds) (hp : H p = none) : MemOk K m (upd H p (.lst vs)) ∧ Sub (hide m H) (hide m (upd H p (.lst vs))) ∧ Rd K (hide m (upd H p (.lst vs))) (.ref p) (.lst ds) := by
  obtain ⟨M2, s2⟩ := M.new (o := .lst vs) hp
  refine ⟨M2, s2, .lst ?_ (r.mono s2)⟩
  rw [hide_new M hp]
  exact upd_same
theorem new_lstM {H : Hp} {p : Addr} {vs : List V} {ds : List D} (M : MemOk K m H) (r : RdL K (hide m H) vs ds) (hp : H p = none) : MemOk K (m ++ [(p, .lst ds)]) (upd H p (.lst vs)) ∧ Sub (hide m H) (hide (m ++ [(p, .lst ds)]) (upd H p (.lst vs))) := by
  have e : hide (m ++ [(p, Cell.lst ds)]) (upd H p (.lst vs)) = hide m H := hide_cell hp
  exact ⟨M.cell (c := .lst ds) hp ⟨vs, upd_same, r⟩, by rw [e]; exact Sub.refl _⟩
theorem new_tup {H : Hp} {p : Addr} {vs : List V} {ds : List D} (M : MemOk K m H) (r : RdL K (hide m H) vs ds) (hp : H p = none) : MemOk K m (upd H p (.tup vs)) ∧ Sub (hide m H) (hide m (upd H p (.tup vs))) ∧ Rd K (hide m (upd H p (.tup vs))) (.ref p) (.tup ds) := by
  obtain ⟨M2, s2⟩ := M.new (o := .tup vs) hp
  refine ⟨M2, s2, .tup ?_ (r.mono s2)⟩
  rw [hide_new M hp]
  exact .inl (.inl upd_same)
theorem lst_at {H : Hp} {v : V} {ds : List D} (r : Rd K (hide m H) v (.lst ds)) : ∃ (a : Addr) (xs : List V), v = .ref a ∧ H a = some (.lst xs) ∧ RdL K (hide m H) xs ds := by
  cases r with
  | lst e r => exact ⟨_, _, rfl, hide_le _ _ e, r⟩
theorem tup_at {H : Hp} {v : V} {ds : List D} (r : Rd K (hide m H) v (.tup ds)) : ∃ (a : Addr) (xs : List V), v = .ref a ∧ SqT K H a xs ∧ RdL K (hide m H) xs ds := by
  cases r with
  | tup e r => exact ⟨_, _, rfl, hide_le.sqt e, r⟩
theorem cell_at {H : Hp} {i : Nat} {p : Addr} {ds : List D} (M : MemOk K m H) (h : m[i]? = some (p, .lst ds)) : ∃ xs : List V, H p = some (.lst xs) ∧ RdL K (hide m H) xs ds := M.get h
theorem ow_addL {xs ys : List D} (h : xs.length + ys.length ≤ sizeLine) (q : Q (.lst (xs ++ ys)) m) : OW K rAddU (.lst xs) (.lst ys) m Q := fun H v w M a b QQ k => by
  obtain ⟨p, vs, rfl, e1, r1⟩ := lst_at a
  obtain ⟨p', ws, rfl, e2, r2⟩ := lst_at b
  refine .inr (.inr ⟨p, p', vs, ws, rfl, rfl, e1, e2, by rw [r1.length, r2.length]; exact h, fun z hz => ?_⟩)
  obtain ⟨M2, s2, r3⟩ := new_lst M (r1.append r2) hz
  exact k _ m _ _ q s2 M2 r3
/-! ### == and != of data -/
theorem ow_eq {n : Nat} {x y : D} (hn : n ≤ 64) (hx : x.fl n = true) (hy : y.fl n = true) (q : Q (.bl (PyData.eqv x.py y.py)) m) : OW K (rEqD K) x y m Q := fun H v w M a b QQ k =>
  ⟨x.py, y.py, Rd.dp n x v hx a.top, Rd.dp n y w hy b.top, fl_ok hx hn, fl_ok hy hn, k _ m _ H q (Sub.refl _) M (.bl _)⟩
theorem ow_ne {n : Nat} {x y : D} (hn : n ≤ 64) (hx : x.fl n = true) (hy : y.fl n = true) (q : Q (.bl (!PyData.eqv x.py y.py)) m) : OW K (rNeD K) x y m Q := fun H v w M a b QQ k =>
  ⟨x.py, y.py, Rd.dp n x v hx a.top, Rd.dp n y w hy b.top, fl_ok hx hn, fl_ok hy hn, k _ m _ H q (Sub.refl _) M (.bl _)⟩
theorem ow_eqI {i j : Int} (q : Q (.bl (decide (i = j))) m) : OW K (rEqD K) (.int i) (.int j) m Q := ow_eq (n := 0) (by decide) rfl rfl (by
  have : PyData.eqv (D.int i).py (D.int j).py = decide (i = j) := by simp only [D.py, PyData.eqv]; rfl
  rw [this]; exact q)
theorem ow_neI {i j : Int} (q : Q (.bl (!decide (i = j))) m) : OW K (rNeD K) (.int i) (.int j) m Q := ow_ne (n := 0) (by decide) rfl rfl (by
  have : PyData.eqv (D.int i).py (D.int j).py = decide (i = j) := by simp only [D.py, PyData.eqv]; rfl
  rw [this]; exact q)
/-- is None -/
def D.isNon : D → Bool
  | .non => true
  | _ => false
theorem isNon_v {F : Hp} {v : V} {d : D} (r : Rd K F v d) : decide (v = .non) = d.isNon := by cases r <;> rfl
def rIsN1 : R2 := fun x y H Q => y = .non ∧ Q (.bl (decide (x = .non))) H
def rNotN1 : R2 := fun x y H Q => y = .non ∧ Q (.bl (!decide (x = .non))) H
theorem op_isN2 {X : Cx} : OpR X (compareOp .Is) rIsN1 := op_isN
theorem ow_isN {x : D} (q : Q (.bl x.isNon) m) : OW K rIsN1 x .non m Q := fun H v w M a b QQ k => by
  cases b
  exact ⟨rfl, k _ m _ H q (Sub.refl _) M (by rw [isNon_v a]; exact .bl _)⟩
theorem ow_notN {x : D} (q : Q (.bl (!x.isNon)) m) : OW K rNotN1 x .non m Q := fun H v w M a b QQ k => by
  cases b
  exact ⟨rfl, k _ m _ H q (Sub.refl _) M (by rw [isNon_v a]; exact .bl _)⟩
end
end DL

set_option Elab.async false
set_option linter.all false
set_option maxRecDepth 100000
set_option maxHeartbeats 1000000
set_option autoImplicit false
namespace DL
open PySem PySem.Spec PyProof.Rows L2
section
variable {K : PySem.W.Frag} {δ : List (Option D)} {m : Mem} {Q : D → Mem → Prop} {te ta tb tc : TE} {F : Hp}
theorem RdL.atI {vs : List V} {ds : List D} {i : Int} {d : D} (r : RdL K F vs ds) (h : L2.atI ds i = some d) : ∃ v, L2.atI vs i = some v ∧ Rd K F v d := by
  unfold L2.atI at h ⊢
  rw [r.length]
  cases q : ixN ds.length i with
  | none => rw [q] at h; cases h
  | some j =>
    rw [q] at h
    obtain ⟨v, a, b⟩ := r.get (show ds[j]? = some d from h)
    exact ⟨v, a, b⟩
theorem atI_lt {α : Type} {xs : List α} {i : Int} {x : α} (h0 : 0 ≤ i) (h : xs[i.toNat]? = some x) : L2.atI xs i = some x := by
  have e : ((i.toNat : Nat) : Int) = i := by omega
  rw [← e]
  exact atI_nat h
def cutD (ds : List D) (lo hi : Option Int) : List D := (ds.drop (HT.sIx ds.length 0 lo)).take (HT.sIx ds.length ds.length hi - HT.sIx ds.length 0 lo)
theorem RdL.cut {vs : List V} {ds : List D} (lo hi : Option Int) (r : RdL K F vs ds) : RdL K F (cutV vs lo hi) (cutD ds lo hi) := by
  unfold cutV cutD
  rw [r.length]
  exact (r.drop _).take _
/-! ### subscripts: list, tuple, text by a number; dict by a key -/
def rIxDc : R2 := fun x y H Q => ∃ (a : Addr) (z : V), x = .ref a ∧ DGet H a y (some z) ∧ Q z H
theorem ix_dct {X : Cx} (hu : X.A.units + 64 < cLine) : IxR X rIxDc := by
  intro value slice pins s σ H x y v u Q I rx ry h hs
  obtain ⟨a, z, rfl, g, q⟩ := h
  cases rx
  refine tail_any (dict_typeIs I g) PySem.F.slot_dict_getitem.lookup ?_ hs
  exact d_getItem (by omega) I g ry fun w' s3 I3 rw' => ⟨z, H, I3, rw', q⟩
def rIxU (K : PySem.W.Frag) : R2 := fun x y H Q => rIxL K x y H Q ∨ (rIxT K x y H Q ∨ (rIxS x y H Q ∨ rIxDc x y H Q))
theorem ix_U {X : Cx} (hu : X.A.units + 64 < cLine) : IxR X (rIxU X.K) := IxR.or ix_list (IxR.or ix_tup (IxR.or ix_str (ix_dct hu)))
theorem ow_ixL {ds : List D} {i : Int} {d : D} (h : L2.atI ds i = some d) (q : Q d m) : OW K (rIxU K) (.lst ds) (.int i) m Q := fun H v w M a b QQ k => by
  obtain ⟨p, vs, rfl, e, r⟩ := lst_at a
  cases b
  obtain ⟨z, h1, h2⟩ := r.atI h
  exact .inl ⟨p, vs, i, z, rfl, rfl, SqL.of e, h1, k d m z H q (Sub.refl _) M h2⟩
theorem ow_ixM {j : Nat} {p : Addr} {ds : List D} {i : Int} {d : D} (hm : m[j]? = some (p, .lst ds)) (h : L2.atI ds i = some d) (q : Q d m) : OW K (rIxU K) (.adr p) (.int i) m Q := fun H v w M a b QQ k => by
  obtain ⟨vs, e, r⟩ := cell_at M hm
  cases a
  cases b
  obtain ⟨z, h1, h2⟩ := r.atI h
  exact .inl ⟨p, vs, i, z, rfl, rfl, SqL.of e, h1, k d m z H q (Sub.refl _) M h2⟩
theorem ow_ixR {ns : List Int} {i : Int} {n : Int} (h : L2.atI ns i = some n) (q : Q (.int n) m) : OW K (rIxU K) (.scr ns) (.int i) m Q := fun H v w M a b QQ k => by
  cases a with
  | scr e =>
    cases b
    refine .inl ⟨_, _, i, .int n, rfl, rfl, hide_le.sql e, ?_, k _ m _ H q (Sub.refl _) M (.int n)⟩
    unfold L2.atI at h ⊢
    rw [List.length_map]
    cases z : ixN ns.length i with
    | none => rw [z] at h; cases h
    | some j =>
      rw [z] at h
      have h' : ns[j]? = some n := h
      show (ns.map V.int)[j]? = some (V.int n)
      rw [List.getElem?_map, h']
      rfl
theorem ow_ixT {ds : List D} {i : Int} {d : D} (h : L2.atI ds i = some d) (q : Q d m) : OW K (rIxU K) (.tup ds) (.int i) m Q := fun H v w M a b QQ k => by
  obtain ⟨p, vs, rfl, e, r⟩ := tup_at a
  cases b
  obtain ⟨z, h1, h2⟩ := r.atI h
  exact .inr (.inl ⟨p, vs, i, z, rfl, rfl, e, h1, k d m z H q (Sub.refl _) M h2⟩)
theorem ow_ixS {x : Str} {i : Int} {c : Nat} (hz : x.length ≤ sizeLine) (h : L2.atI x.cps.toList i = some c) (q : Q (.str ⟨#[c]⟩) m) : OW K (rIxU K) (.str x) (.int i) m Q := fun H v w M a b QQ k => by
  cases a
  cases b
  exact .inr (.inr (.inl ⟨x, i, c, rfl, rfl, hz, h, k _ m _ H q (Sub.refl _) M (.str _)⟩))
/-- what a dict of data tells of a key -/
def valD (kvs : List (Key × D)) (k : Key) : Option D := (kvs.find? fun kv => decide (kv.1 = k)).map (·.2)
theorem RdL.valV : ∀ {vs : List (Key × V)} {ds : List (Key × D)} (k : Key), vs.map Prod.fst = ds.map Prod.fst → RdL K F (vs.map Prod.snd) (ds.map Prod.snd) → (∀ d, valD ds k = some d → ∃ v, L2.valV vs k = some v ∧ Rd K F v d) ∧ (valD ds k = none → L2.valV vs k = none)
  | [], [], _, _, _ => ⟨fun d h => by simp [valD] at h, fun _ => rfl⟩
  | [], _ :: _, _, h, _ => by simp at h
  | _ :: _, [], _, h, _ => by simp at h
  | (k1, v1) :: vs, (k2, d2) :: ds, k, h, r => by
    simp only [List.map_cons, List.cons.injEq] at h
    obtain ⟨h1, h2⟩ := h
    subst h1
    cases r with
    | cons r1 r2 =>
      have ih := RdL.valV k h2 r2
      by_cases e : k1 = k
      · subst e
        refine ⟨fun d hd => ⟨v1, valV_pos rfl, ?_⟩, fun hn => ?_⟩
        · simp [valD] at hd; subst hd; exact r1
        · simp [valD] at hn
      · have e1 : L2.valV ((k1, v1) :: vs) k = L2.valV vs k := valV_neg e
        have e2 : valD ((k1, d2) :: ds) k = valD ds k := by simp [valD, List.find?_cons, e]
        rw [e1, e2]
        exact ih
def kD : Key → D
  | .inl i => .int i
  | .inr x => .str x
theorem kD_v {v : V} {k : Key} (r : Rd K F v (kD k)) : v = kV k := by
  cases k <;> (cases r; rfl)
theorem dic_at {H : Hp} {v : V} {ds : List (Key × D)} (r : Rd K (hide m H) v (.dic ds)) : ∃ (a : Addr) (xs : List (Key × V)), v = .ref a ∧ H a = some (.dK xs) ∧ xs.map Prod.fst = ds.map Prod.fst ∧ RdL K (hide m H) (xs.map Prod.snd) (ds.map Prod.snd) := by
  cases r with
  | dic e n r => exact ⟨_, _, rfl, hide_le _ _ e, n, r⟩
/-! ### slices -/
def rSlU (K : PySem.W.Frag) : V → Option Int → Option Int → Hp → VK → Prop := fun x lo hi H Q => rSlL K x lo hi H Q ∨ rSlS x lo hi H Q
theorem sl_U {X : Cx} : SlR X (rSlU X.K) := SlR.or sl_list sl_str
def PW (to : TO) (δ : List (Option D)) (m : Mem) (Q : Option Int → Mem → Prop) : Prop := ∀ (σ : L2.St) (H : Hp), Sl K (hide m H) σ δ → MemOk K m H → ∀ QQ : Option Int → Hp → Prop,
  (∀ (o : Option Int) (m' : Mem) (H' : Hp), Q o m' → Sub (hide m H) (hide m' H') → MemOk K m' H' → QQ o H') → to σ H QQ
theorem pw_no {Q : Option Int → Mem → Prop} (q : Q none m) : PW (K := K) tNoPart δ m Q := fun σ H s M QQ k => k none m H q (Sub.refl _) M
theorem pw_part {Q : Option Int → Mem → Prop} (h : EW K te δ m fun x m1 => ∃ i, x = .int i ∧ Q (some i) m1) : PW (K := K) (tPart te) δ m Q := fun σ H s M QQ k =>
  h σ H s M _ fun x m1 v H1 ⟨i, e, q⟩ s1 M1 r => by
    subst e
    cases r
    exact ⟨i, rfl, k (some i) m1 H1 q s1 M1⟩
/-- a slice by values -/
def LW (r : V → Option Int → Option Int → Hp → VK → Prop) (x : D) (lo hi : Option Int) (m : Mem) (Q : D → Mem → Prop) : Prop := ∀ (H : Hp) (v : V), MemOk K m H → Rd K (hide m H) v x → ∀ QQ : VK,
  (∀ (d : D) (m' : Mem) (u : V) (H' : Hp), Q d m' → Sub (hide m H) (hide m' H') → MemOk K m' H' → Rd K (hide m' H') u d → QQ u H') → r v lo hi H QQ
theorem ew_sl {r : V → Option Int → Option Int → Hp → VK → Prop} {tl th : TO} (h : EW K te δ m fun x m1 => PW (K := K) tl δ m1 fun lo m2 => PW (K := K) th δ m2 fun hi m3 => LW (K := K) r x lo hi m3 Q) : EW K (tSl r te tl th) δ m Q := fun σ H s M QQ k =>
  h σ H s M _ fun x m1 v1 H1 q1 s1 M1 r1 => q1 σ H1 (s.mono s1) M1 _ fun lo m2 H2 q2 s2 M2 => q2 σ H2 (s.mono (s1.trans s2)) M2 _ fun hi m3 H3 q3 s3 M3 => q3 H3 v1 M3 (r1.mono (s2.trans s3)) _ fun d m4 u H4 q4 s4 M4 r4 => k d m4 u H4 q4 (((s1.trans s2).trans s3).trans s4) M4 r4
theorem lw_L {ds : List D} {lo hi : Option Int} (q : Q (.lst (cutD ds lo hi)) m) : LW (K := K) (rSlU K) (.lst ds) lo hi m Q := fun H v M a QQ k => by
  obtain ⟨p, vs, rfl, e, r⟩ := lst_at a
  refine .inl ⟨p, vs, rfl, SqL.of e, fun z hz => ?_⟩
  obtain ⟨M2, s2, r3⟩ := new_lst M (r.cut lo hi) hz
  exact k _ m _ _ q s2 M2 r3
theorem lw_S {x : Str} {lo hi : Option Int} (hz : x.length ≤ sizeLine) (q : Q (.str (cutS x lo hi)) m) : LW (K := K) (rSlU K) (.str x) lo hi m Q := fun H v M a QQ k => by
  cases a
  exact .inr ⟨x, rfl, hz, k _ m _ H q (Sub.refl _) M (.str _)⟩
/-! ### built-in functions -/
def rLenU (K : PySem.W.Frag) : List V → Hp → VK → Prop := fun xs H Q => (∃ x n, xs = [x] ∧ LenV K x H n ∧ Q (.int n) H) ∨ (∃ a kvs, xs = [V.ref a] ∧ H a = some (.dK kvs) ∧ Q (.int kvs.length) H)
theorem cr_lenU {X : Cx} : CallR X (.builtin "len") (rLenU X.K) := CallR.or call_len call_lenD
theorem cw_lenL {ds : List D} (q : Q (.int (ds.length : Nat)) m) : CW K (rLenU K) [.lst ds] m Q := fun H vs M a QQ k => by
  cases a with
  | cons a n =>
    cases n
    obtain ⟨p, xs, rfl, e, r⟩ := lst_at a
    exact .inl ⟨_, xs.length, rfl, .inl ⟨xs, SqL.of e, rfl⟩, k _ m _ H q (Sub.refl _) M (by rw [r.length]; exact .int _)⟩
theorem cw_lenM {j : Nat} {p : Addr} {ds : List D} (hm : m[j]? = some (p, .lst ds)) (q : Q (.int (ds.length : Nat)) m) : CW K (rLenU K) [.adr p] m Q := fun H vs M a QQ k => by
  cases a with
  | cons a n =>
    cases n
    cases a
    obtain ⟨xs, e, r⟩ := cell_at M hm
    exact .inl ⟨_, xs.length, rfl, .inl ⟨xs, SqL.of e, rfl⟩, k _ m _ H q (Sub.refl _) M (by rw [r.length]; exact .int _)⟩
theorem cw_lenR {ns : List Int} (q : Q (.int (ns.length : Nat)) m) : CW K (rLenU K) [.scr ns] m Q := fun H vs M a QQ k => by
  cases a with
  | cons a n =>
    cases n
    cases a with
    | scr e => exact .inl ⟨_, (ns.map V.int).length, rfl, .inl ⟨_, hide_le.sql e, rfl⟩, k _ m _ H q (Sub.refl _) M (by rw [List.length_map]; exact .int _)⟩
theorem cw_lenS {x : Str} (hz : x.length ≤ sizeLine) (q : Q (.int (x.length : Nat)) m) : CW K (rLenU K) [.str x] m Q := fun H vs M a QQ k => by
  cases a with
  | cons a n =>
    cases n
    cases a
    exact .inl ⟨_, x.length, rfl, ⟨hz, rfl⟩, k _ m _ H q (Sub.refl _) M (.int _)⟩
def rInt1 : List V → Hp → VK → Prop := fun xs H Q => (∃ i, xs = [.int i] ∧ Q (.int i) H) ∨ ∃ k, xs = [.bl k] ∧ Q (.int (if k then 1 else 0)) H
theorem cr_int1 {X : Cx} : CallR X (.type "int") rInt1 := call_int1
theorem cw_int {i : Int} (q : Q (.int i) m) : CW K rInt1 [.int i] m Q := fun H vs M a QQ k => by
  cases a with
  | cons a n =>
    cases n
    cases a
    exact .inl ⟨i, rfl, k _ m _ H q (Sub.refl _) M (.int _)⟩
theorem cw_intB {b : Bool} (q : Q (.int (if b then 1 else 0)) m) : CW K rInt1 [.bl b] m Q := fun H vs M a QQ k => by
  cases a with
  | cons a n =>
    cases n
    cases a
    exact .inr ⟨b, rfl, k _ m _ H q (Sub.refl _) M (.int _)⟩
def rAbs1 : List V → Hp → VK → Prop := fun xs H Q => ∃ i, xs = [.int i] ∧ Q (.int (if i < 0 then -i else i)) H
theorem cr_abs {X : Cx} : CallR X (.builtin "abs") rAbs1 := call_abs
theorem cw_abs {i : Int} (q : Q (.int (if i < 0 then -i else i)) m) : CW K rAbs1 [.int i] m Q := fun H vs M a QQ k => by
  cases a with
  | cons a n =>
    cases n
    cases a
    exact ⟨i, rfl, k _ m _ H q (Sub.refl _) M (.int _)⟩
def rMx2 : List V → Hp → VK → Prop := fun xs H Q => ∃ i j, xs = [.int i, .int j] ∧ Q (.int (if j > i then j else i)) H
def rMn2 : List V → Hp → VK → Prop := fun xs H Q => ∃ i j, xs = [.int i, .int j] ∧ Q (.int (if j < i then j else i)) H
theorem cr_mx2 {X : Cx} (hc : X.calm = true) : CallR X (.builtin "max") rMx2 := call_max2 hc
theorem cr_mn2 {X : Cx} (hc : X.calm = true) : CallR X (.builtin "min") rMn2 := call_min2 hc
theorem cw_mx2 {i j : Int} (q : Q (.int (if j > i then j else i)) m) : CW K rMx2 [.int i, .int j] m Q := fun H vs M a QQ k => by
  cases a with
  | cons a n =>
    cases n with
    | cons b n =>
      cases n
      cases a
      cases b
      exact ⟨i, j, rfl, k _ m _ H q (Sub.refl _) M (.int _)⟩
theorem cw_mn2 {i j : Int} (q : Q (.int (if j < i then j else i)) m) : CW K rMn2 [.int i, .int j] m Q := fun H vs M a QQ k => by
  cases a with
  | cons a n =>
    cases n with
    | cons b n =>
      cases n
      cases a
      cases b
      exact ⟨i, j, rfl, k _ m _ H q (Sub.refl _) M (.int _)⟩
/-- list(x), tuple(x) of lists and tuples -/
def rListU (K : PySem.W.Frag) : List V → Hp → VK → Prop := fun xs H Q => ∃ p ys, xs = [.ref p] ∧ (SqL K H p ys ∨ SqT K H p ys) ∧ ∀ l, H l = none → Q (.ref l) (upd H l (.lst ys))
theorem cr_listU {X : Cx} : CallR X (.type "list") (rListU X.K) := call_list_of
theorem cw_listL {ds : List D} (q : Q (.lst ds) m) : CW K (rListU K) [.lst ds] m Q := fun H vs M a QQ k => by
  cases a with
  | cons a n =>
    cases n
    obtain ⟨p, xs, rfl, e, r⟩ := lst_at a
    refine ⟨p, xs, rfl, .inl (SqL.of e), fun z hz => ?_⟩
    obtain ⟨M2, s2, r3⟩ := new_lst M r hz
    exact k _ m _ _ q s2 M2 r3
theorem cw_listT {ds : List D} (q : Q (.lst ds) m) : CW K (rListU K) [.tup ds] m Q := fun H vs M a QQ k => by
  cases a with
  | cons a n =>
    cases n
    obtain ⟨p, xs, rfl, e, r⟩ := tup_at a
    refine ⟨p, xs, rfl, .inr e, fun z hz => ?_⟩
    obtain ⟨M2, s2, r3⟩ := new_lst M r hz
    exact k _ m _ _ q s2 M2 r3
theorem cw_listM {j : Nat} {p : Addr} {ds : List D} (hm : m[j]? = some (p, .lst ds)) (q : Q (.lst ds) m) : CW K (rListU K) [.adr p] m Q := fun H vs M a QQ k => by
  cases a with
  | cons a n =>
    cases n
    cases a
    obtain ⟨xs, e, r⟩ := cell_at M hm
    refine ⟨p, xs, rfl, .inl (SqL.of e), fun z hz => ?_⟩
    obtain ⟨M2, s2, r3⟩ := new_lst M r hz
    exact k _ m _ _ q s2 M2 r3
/-- the same, the new list a cell -/
theorem cw_listLM {ds : List D} (q : ∀ z, Q (.adr z) (m ++ [(z, .lst ds)])) : CW K (rListU K) [.lst ds] m Q := fun H vs M a QQ k => by
  cases a with
  | cons a n =>
    cases n
    obtain ⟨p, xs, rfl, e, r⟩ := lst_at a
    refine ⟨p, xs, rfl, .inl (SqL.of e), fun z hz => ?_⟩
    obtain ⟨M2, s2⟩ := new_lstM M r hz
    exact k _ _ _ _ (q z) s2 M2 (.adr z)
theorem cw_all {bs : List Bool} (q : Q (.bl (bs.all id)) m) : CW K (rAll K) [.lst (bs.map D.bl)] m Q := fun H vs M a QQ k => by
  cases a with
  | cons a n =>
    cases n
    obtain ⟨p, xs, rfl, e, r⟩ := lst_at a
    have := r.bls_v
    subst this
    exact ⟨p, bs, rfl, SqL.of e, k _ m _ H q (Sub.refl _) M (.bl _)⟩
end
end DL

set_option Elab.async false
set_option linter.all false
set_option maxRecDepth 100000
set_option maxHeartbeats 1000000
set_option autoImplicit false
namespace DL
open PySem PySem.Spec PyProof.Rows L2
/-! ### targets -/
section
variable (K : PySem.W.Frag)
def GW (g : TG) (d : D) (δ : List (Option D)) (m : Mem) (Q : List (Option D) → Mem → Prop) : Prop := ∀ (σ : L2.St) (H : Hp) (v : V), Sl K (hide m H) σ δ → MemOk K m H → Rd K (hide m H) v d → ∀ QQ : L2.St → Hp → Prop,
  (∀ (δ' : List (Option D)) (m' : Mem) (σ' : L2.St) (H' : Hp), Q δ' m' → Sub (hide m H) (hide m' H') → Sl K (hide m' H') σ' δ' → MemOk K m' H' → QQ σ' H') → g v σ H QQ
def GsW (g : TGs) (ds : List D) (δ : List (Option D)) (m : Mem) (Q : List (Option D) → Mem → Prop) : Prop := ∀ (σ : L2.St) (H : Hp) (vs : List V), Sl K (hide m H) σ δ → MemOk K m H → RdL K (hide m H) vs ds → ∀ QQ : L2.St → Hp → Prop,
  (∀ (δ' : List (Option D)) (m' : Mem) (σ' : L2.St) (H' : Hp), Q δ' m' → Sub (hide m H) (hide m' H') → Sl K (hide m' H') σ' δ' → MemOk K m' H' → QQ σ' H') → g vs σ H QQ
/-- what is walked feeds these data, while F0 stands -/
structure Feeds (J : It) (F0 : Hp) (ds : List D) : Prop where
  go : ∀ (i : Nat) (m : Mem) (H : Hp), Sub F0 (hide m H) → MemOk K m H → i < ds.length → J.go i H
  yld : ∀ (i : Nat) (m : Mem) (H : Hp) (x : V) (H' : Hp) (d : D), Sub F0 (hide m H) → MemOk K m H → ds[i]? = some d → J.yld i H x H' → Sub (hide m H) (hide m H') ∧ MemOk K m H' ∧ Rd K (hide m H') x d
  stop : ∀ (m : Mem) (H : Hp), Sub F0 (hide m H) → MemOk K m H → J.stop ds.length H
def IW (wi : TI) (δ : List (Option D)) (m : Mem) (Q : List D → Mem → Prop) : Prop := ∀ (σ : L2.St) (H : Hp), Sl K (hide m H) σ δ → MemOk K m H → ∀ R : It → Hp → Prop,
  (∀ (J : It) (H1 : Hp) (m1 : Mem) (ds : List D), Q ds m1 → Sub (hide m H) (hide m1 H1) → MemOk K m1 H1 → Feeds K J (hide m1 H1) ds → R J H1) → wi σ H R
end
section
variable {K : PySem.W.Frag} {δ : List (Option D)} {m : Mem} {Q : D → Mem → Prop} {te ta tb tc : TE} {F : Hp} {P : Ps} {t u : TS} {tt : TT} {g : TG} {wi : TI}
theorem gw_name {i : Nat} {d : D} {Q : List (Option D) → Mem → Prop} (q : Q (δ.set i (some d)) m) : GW K (gName i) d δ m Q := fun σ H v s M r QQ k => k _ m _ H q (Sub.refl _) (s.set i r) M
theorem gs_nil {Q : List (Option D) → Mem → Prop} (q : Q δ m) : GsW K gNil [] δ m Q := fun σ H vs s M r QQ k => by
  cases r
  exact ⟨rfl, k δ m σ H q (Sub.refl _) s M⟩
theorem gs_cons {g : TG} {gs : TGs} {d : D} {ds : List D} {Q : List (Option D) → Mem → Prop} (h : GW K g d δ m fun δ1 m1 => GsW K gs ds δ1 m1 Q) : GsW K (gCons g gs) (d :: ds) δ m Q := fun σ H vs s M r QQ k => by
  cases r with
  | cons r1 r2 =>
    refine ⟨_, _, rfl, h σ H _ s M r1 _ fun δ1 m1 σ1 H1 q1 s1 S1 M1 => ?_⟩
    exact q1 σ1 H1 _ S1 M1 (r2.mono s1) _ fun δ2 m2 σ2 H2 q2 s2 S2 M2 => k δ2 m2 σ2 H2 q2 (s1.trans s2) S2 M2
theorem gw_tup {n : Nat} {gs : TGs} {ds : List D} {Q : List (Option D) → Mem → Prop} (hn : ds.length = n) (h : GsW K gs ds δ m Q) : GW K (gTup K n gs) (.tup ds) δ m Q := fun σ H v s M r QQ k => by
  obtain ⟨a, xs, rfl, e, r1⟩ := tup_at r
  exact ⟨a, xs, rfl, e, by rw [r1.length]; exact hn, h σ H xs s M r1 QQ k⟩
theorem sw_asgG (h : EW K te δ m fun d m1 => GW K g d δ m1 P.nx) : SW K (tAsg te g) δ m P := fun σ H s M E k =>
  h σ H s M _ fun d m1 v H1 q1 s1 M1 r1 => q1 σ H1 v (s.mono s1) M1 r1 _ fun δ2 m2 σ2 H2 q2 s2 S2 M2 => k.nx δ2 m2 σ2 H2 q2 (s1.trans s2) S2 M2
/-- xs[i] = d, xs a cell -/
theorem gw_setL {d : D} {Q : List (Option D) → Mem → Prop} (h : EW K ta δ m fun x m1 => EW K tb δ m1 fun y m2 => ∃ i p ds n j, x = .adr p ∧ y = .int n ∧ m2[i]? = some (p, .lst ds) ∧ ixN ds.length n = some j ∧ Q δ (m2.set i (p, .lst (ds.set j d)))) : GW K (gSub ta tb rSetL) d δ m Q := fun σ H v s M r QQ k =>
  h σ H s M _ fun x m1 vx H1 q1 s1 M1 r1 => q1 σ H1 (s.mono s1) M1 _ fun y m2 vy H2 ⟨i, p, ds, n, j, ex, ey, hm, hj, q⟩ s2 M2 r2 => by
    subst ex
    subst ey
    cases r1
    cases r2
    obtain ⟨xs, e, rx⟩ := cell_at M2 hm
    refine ⟨p, xs, n, j, rfl, rfl, e, by rw [rx.length]; exact hj, ?_⟩
    have eh : hide (m2.set i (p, .lst (ds.set j d))) (upd H2 p (.lst (xs.set j v))) = hide m2 H2 := hide_set hm
    refine k δ _ σ _ q (by rw [eh]; exact s1.trans s2) (by rw [eh]; exact s.mono (s1.trans s2)) (M2.set hm ⟨_, upd_same, ?_⟩)
    exact (rx.set (r.mono (s1.trans s2)) j)
/-! ### what is walked -/
theorem feeds_seq {a : Addr} {xs : List V} {ds : List D} {F0 : Hp} (e : F0 a = some (.lst xs)) (r : RdL K F0 xs ds) : Feeds K (Itl K a) F0 ds := by
  have l := r.length
  have at_ : ∀ (m : Mem) (H : Hp), Sub F0 (hide m H) → SqL K H a xs := fun m H s => SqL.of (hide_le _ _ (s _ _ e))
  refine ⟨fun i m H s M h => ?_, fun i m H x H' d s M h y => ?_, fun m H s M => ?_⟩
  · exact ⟨xs, xs[i]'(by omega), at_ m H s, by simp [l, h]⟩
  · obtain ⟨rfl, y⟩ := y
    obtain ⟨v, h1, h2⟩ := r.get h
    have z := y xs (at_ m H' s)
    rw [h1] at z
    cases z
    exact ⟨Sub.refl _, M, h2.mono s⟩
  · exact ⟨xs, at_ m H s, by omega⟩
theorem feeds_tup {a : Addr} {xs : List V} {ds : List D} {F0 : Hp} (e : SqT K F0 a xs) (r : RdL K F0 xs ds) : Feeds K (Itt K a) F0 ds := by
  have l := r.length
  have at_ : ∀ (m : Mem) (H : Hp), Sub F0 (hide m H) → SqT K H a xs := fun m H s => hide_le.sqt (s.sqt e)
  refine ⟨fun i m H s M h => ?_, fun i m H x H' d s M h y => ?_, fun m H s M => ?_⟩
  · exact ⟨xs, xs[i]'(by omega), at_ m H s, by simp [l, h]⟩
  · obtain ⟨rfl, y⟩ := y
    obtain ⟨v, h1, h2⟩ := r.get h
    have z := y xs (at_ m H' s)
    rw [h1] at z
    cases z
    exact ⟨Sub.refl _, M, h2.mono s⟩
  · exact ⟨xs, at_ m H s, by omega⟩
def intsD (lo : Int) (n : Nat) : List D := (List.range n).map fun i => D.int (lo + (i : Nat))
theorem intsD_len (lo : Int) (n : Nat) : (intsD lo n).length = n := by simp [intsD]
theorem intsD_get {lo : Int} {n i : Nat} {d : D} (h : (intsD lo n)[i]? = some d) : i < n ∧ d = .int (lo + (i : Nat)) := by
  unfold intsD at h
  rw [List.getElem?_map] at h
  by_cases l : i < n
  · rw [List.getElem?_range l] at h
    cases h
    exact ⟨l, rfl⟩
  · rw [List.getElem?_eq_none (by simpa using l)] at h; cases h
theorem feeds_rng {lo : Int} {n : Nat} {F0 : Hp} : Feeds K (Itr lo n) F0 (intsD lo n) := by
  refine ⟨fun i m H s M h => by rw [intsD_len] at h; exact h, fun i m H x H' d s M h y => ?_, fun m H s M => by rw [intsD_len]; exact Nat.le_refl n⟩
  obtain ⟨rfl, rfl⟩ := y
  obtain ⟨_, rfl⟩ := intsD_get h
  exact ⟨Sub.refl _, M, .int _⟩
def signsD (x : Str) : List D := x.cps.toList.map fun c => D.str ⟨#[c]⟩
theorem feeds_str {x : Str} {F0 : Hp} : Feeds K (Its x) F0 (signsD x) := by
  have l : (signsD x).length = x.cps.size := by simp [signsD]
  refine ⟨fun i m H s M h => by rw [l] at h; exact h, fun i m H v H' d s M h y => ?_, fun m H s M => by rw [l]; exact Nat.le_refl _⟩
  obtain ⟨rfl, c, hc, rfl⟩ := y
  unfold signsD at h
  rw [List.getElem?_map, Array.getElem?_toList, hc] at h
  cases h
  exact ⟨Sub.refl _, M, .str _⟩
/-- a list or a tuple or a text, whatever comes -/
def iAny (K : PySem.W.Frag) (tl : TE) : TI := fun σ H R => tl σ H fun x H1 => (∃ a, x = .ref a ∧ (∃ xs, SqL K H1 a xs) ∧ R (Itl K a) H1) ∨ (∃ a, x = .ref a ∧ (∃ xs, SqT K H1 a xs) ∧ R (Itt K a) H1)
theorem pi_any {X : Cx} {tg l : Expr} {tl : TE} (hl : PE X l tl) : PI X tg l (iAny X.K tl) := by
  constructor
  intro pins s σ H R I h
  refine thn (hl.run pins s σ H _ I h) ?_
  rintro v s1 ⟨x, H1, I1, r1, q⟩
  have nw : ∀ b, b ∈ [s1.heap.objs.size] → FpOk X pins H1 b := by
    intro b hb
    rw [List.mem_singleton.mp hb]
    exact I1.fpOk (Nat.le_refl _) (I1.hok.fresh (Nat.le_refl _))
  rcases q with ⟨a, rfl, ⟨xs, hq⟩, q⟩ | ⟨a, rfl, ⟨xs, hq⟩, q⟩
  · cases r1
    obtain ⟨its, rv, p, hz⟩ := I1.list hq
    exact wpAny_pyIter_list p.isList ⟨s1.heap.objs.size, [s1.heap.objs.size], _, _, H1, rfl, I1.kept (t' := s1.toks) fun b o e => Heap.get?_push_of_some _ e, turn_list a _, ⟨_, Heap.get?_push_size _ rfl, rfl, rfl⟩, nw, q⟩
  · cases r1
    obtain ⟨its, rv, p, hz⟩ := I1.tuple hq
    exact wpAny_pyIter_tuple p ⟨s1.heap.objs.size, [s1.heap.objs.size], _, _, H1, rfl, I1.kept (t' := s1.toks) fun b o e => Heap.get?_push_of_some _ e, turn_tuple a _, ⟨_, Heap.get?_push_size _ rfl, rfl, rfl⟩, nw, q⟩
theorem iw_any {Q : List D → Mem → Prop} (h : EW K te δ m fun x m1 => ∃ ds, (x = .lst ds ∨ x = .tup ds) ∧ Q ds m1) : IW K (iAny K te) δ m Q := fun σ H s M R k =>
  h σ H s M _ fun x m1 v H1 ⟨ds, ex, q⟩ s1 M1 r1 => by
    rcases ex with rfl | rfl
    · cases r1 with
      | lst e r => exact .inl ⟨_, rfl, ⟨_, SqL.of (hide_le _ _ e)⟩, k _ H1 m1 ds q s1 M1 (feeds_seq e r)⟩
    · cases r1 with
      | tup e r => exact .inr ⟨_, rfl, ⟨_, hide_le.sqt e⟩, k _ H1 m1 ds q s1 M1 (feeds_tup e r)⟩
theorem iw_str {Q : List D → Mem → Prop} (h : EW K te δ m fun x m1 => ∃ z, x = .str z ∧ Q (signsD z) m1) : IW K (iStr te) δ m Q := fun σ H s M R k =>
  h σ H s M _ fun x m1 v H1 ⟨z, ex, q⟩ s1 M1 r1 => by
    subst ex
    cases r1
    exact ⟨z, rfl, k _ H1 m1 _ q s1 M1 feeds_str⟩
theorem iw_rng1 {t : TA} {Q : List D → Mem → Prop} (h : AW K t δ m fun xs m1 => ∃ j : Int, xs = [.int j] ∧ -(2 ^ 62) ≤ j ∧ j < 2 ^ 62 ∧ Q (intsD 0 j.toNat) m1) : IW K (iRng1 t) δ m Q := fun σ H s M R k =>
  h σ H s M _ fun x m1 v H1 ⟨j, ex, a, b, q⟩ s1 M1 r1 => by
    subst ex
    cases r1 with
    | cons r1 r2 =>
      cases r2
      cases r1
      exact ⟨j, rfl, a, b, k _ H1 m1 _ q s1 M1 feeds_rng⟩
/-! ### loops -/
theorem sw_for (h : IW K wi δ m fun ds m1 => ∃ Iv : Nat → List (Option D) → Mem → Prop, Iv 0 δ m1 ∧
      (∀ (j : Nat) (d : D) (δ' : List (Option D)) (m' : Mem), ds[j]? = some d → Iv j δ' m' → GW K g d δ' m' fun δ2 m2 => SW K t δ2 m2 { nx := Iv (j + 1), ct := Iv (j + 1), bk := P.nx, rt := P.rt }) ∧
      (∀ (δ' : List (Option D)) (m' : Mem), Iv ds.length δ' m' → P.nx δ' m')) : SW K (tFor wi g t) δ m P := fun σ H s M E k =>
  h σ H s M _ fun J H1 m1 ds ⟨Iv, h0, hs, hd⟩ s1 M1 fe => by
    refine ⟨fun i n σ' H' => n = ds.length - i ∧ i ≤ ds.length ∧ ∃ δ' m', Iv i δ' m' ∧ Sub (hide m1 H1) (hide m' H') ∧ Sl K (hide m' H') σ' δ' ∧ MemOk K m' H', ⟨ds.length, rfl, Nat.zero_le _, δ, m1, h0, Sub.refl _, s.mono s1, M1⟩, ?_⟩
    rintro i n σ' H' ⟨rfl, hi, δ', m', hI, s2, S2, M2⟩
    by_cases hlt : i < ds.length
    · refine .inr ⟨fe.go i m' H' s2 M2 hlt, fun σ3 H3 => ∃ δ3 m3, Iv (i + 1) δ3 m3 ∧ Sub (hide m1 H1) (hide m3 H3) ∧ Sl K (hide m3 H3) σ3 δ3 ∧ MemOk K m3 H3, fun σ3 H3 q => ⟨ds.length - (i + 1), by omega, rfl, hlt, q⟩, fun x H3 y => ?_⟩
      have hdi : ds[i]? = some ds[i] := List.getElem?_eq_getElem hlt
      obtain ⟨s3, M3, r3⟩ := fe.yld i m' H' x H3 _ s2 M2 hdi y
      refine hs i _ δ' m' hdi hI σ' H3 x (S2.mono s3) M3 r3 _ fun δ4 m4 σ4 H4 q4 s4 S4 M4 => ?_
      have s34 : Sub (hide m1 H1) (hide m4 H4) := s2.trans (s3.trans s4)
      refine q4 σ4 H4 S4 M4 _ ⟨?_, ?_, ?_, ?_⟩
      · exact fun δ5 m5 σ5 H5 q5 s5 S5 M5 => ⟨δ5, m5, q5, s34.trans s5, S5, M5⟩
      · exact fun d m5 v H5 q5 s5 M5 r5 => k.rt d m5 v H5 q5 (s1.trans (s34.trans s5)) M5 r5
      · exact fun δ5 m5 σ5 H5 q5 s5 S5 M5 => k.nx δ5 m5 σ5 H5 q5 (s1.trans (s34.trans s5)) S5 M5
      · exact fun δ5 m5 σ5 H5 q5 s5 S5 M5 => ⟨δ5, m5, q5, s34.trans s5, S5, M5⟩
    · have e : i = ds.length := by omega
      subst e
      exact .inl ⟨fe.stop m' H' s2 M2, k.nx δ' m' σ' H' (hd δ' m' hI) (s1.trans s2) S2 M2⟩
/-! ### comprehensions -/
theorem wipe_set {σ : L2.St} {o : Option V} : ∀ {vs : List Nat} {j : Nat}, j ∈ vs → wipe (σ.set j o) vs = wipe σ vs
  | v :: vs, j, h => by
    unfold L2.wipe
    rcases List.mem_cons.mp h with e | e
    · subst e
      have gen : ∀ (ws : List Nat), (wipe (σ.set j o) ws).set j none = (wipe σ ws).set j none := by
        intro ws
        induction ws with
        | nil => unfold L2.wipe; rw [List.set_set]
        | cons a ws ih =>
          unfold L2.wipe
          by_cases q : a = j
          · subst q
            rw [List.set_set, List.set_set]
            exact ih
          · rw [List.set_comm _ _ q, List.set_comm _ _ q, ih]
      exact gen vs
    · rw [wipe_set e]
theorem wipe_idem (σ : L2.St) : ∀ vs : List Nat, wipe (wipe σ vs) vs = wipe σ vs := by
  have swap : ∀ (vs : List Nat) (τ : L2.St) (v : Nat), wipe (τ.set v none) vs = (wipe τ vs).set v none := by
    intro vs
    induction vs with
    | nil => intro τ v; rfl
    | cons a vs ih =>
      intro τ v
      unfold L2.wipe
      rw [ih]
      by_cases q : a = v
      · subst q; rfl
      · exact List.set_comm _ _ (fun z => q z.symm)
  intro vs
  induction vs with
  | nil => rfl
  | cons a vs ih =>
    show (wipe ((wipe σ vs).set a none) vs).set a none = (wipe σ vs).set a none
    rw [swap, List.set_set, ih]
/-- a target that stores the comprehension's own names alone -/
def Tame (g : TG) (vs : List Nat) : Prop := ∀ (v : V) (σ τ : L2.St) (H : Hp) (QQ : L2.St → Hp → Prop), wipe τ vs = wipe σ vs → g v τ H QQ → g v τ H fun σ2 H2 => wipe σ2 vs = wipe σ vs ∧ QQ σ2 H2
theorem tame_name {vs : List Nat} {j : Nat} (h : j ∈ vs) : Tame (gName j) vs := fun v σ τ H QQ e q => ⟨(wipe_set h).trans e, q⟩
/-- a list comprehension: Iv i acc m, behind i items; acc is what is made so far, m the cells besides -/
theorem ew_lc {vs : List Nat} (tm : Tame g vs) (h : IW K wi δ m fun ds m1 => ∃ Iv : Nat → List D → Mem → Prop, Iv 0 [] m1 ∧
      (∀ (j : Nat) (d : D) (acc : List D) (m' : Mem) (z : Addr), ds[j]? = some d → Iv j acc m' → acc.length < sizeLine ∧ GW K g d (wipeD δ vs) (m' ++ [(z, .lst acc)]) fun δ2 m2 => TW K tt δ2 m2 fun b m3 =>
        if b = true then EW K te δ2 m3 fun y m4 => ∃ m5, m4 = m5 ++ [(z, .lst acc)] ∧ Iv (j + 1) (acc ++ [y]) m5 else ∃ m5, m3 = m5 ++ [(z, .lst acc)] ∧ Iv (j + 1) acc m5) ∧
      (∀ (acc : List D) (m' : Mem), Iv ds.length acc m' → Q (.lst acc) m')) : EW K (tLc wi g tt te vs) δ m Q := fun σ H s M QQ k =>
  h σ H s M _ fun J H1 m1 ds ⟨Iv, h0, hs, hd⟩ s1 M1 fe => by
    intro z hz
    have base : Sub (hide m1 H1) (hide (m1 ++ [(z, .lst [])]) (upd H1 z (.lst []))) := by
      rw [hide_cell hz]
      exact Sub.refl _
    refine ⟨fun i n H' => n = ds.length - i ∧ i ≤ ds.length ∧ ∃ acc m', Iv i acc m' ∧ Sub (hide m1 H1) (hide (m' ++ [(z, .lst acc)]) H') ∧ MemOk K (m' ++ [(z, .lst acc)]) H', ⟨ds.length, rfl, Nat.zero_le _, [], m1, h0, base, M1.cell (c := .lst []) hz ⟨[], upd_same, .nil⟩⟩, ?_⟩
    rintro i n H' ⟨rfl, hi, acc, m', hI, s2, M2⟩
    by_cases hlt : i < ds.length
    · refine .inr ⟨fe.go i _ H' s2 M2 hlt, fun H3 => ∃ acc m3, Iv (i + 1) acc m3 ∧ Sub (hide m1 H1) (hide (m3 ++ [(z, .lst acc)]) H3) ∧ MemOk K (m3 ++ [(z, .lst acc)]) H3, fun H3 q => ⟨ds.length - (i + 1), by omega, rfl, hlt, q⟩, fun x H3 y => ?_⟩
      have hdi : ds[i]? = some ds[i] := List.getElem?_eq_getElem hlt
      obtain ⟨s3, M3, r3⟩ := fe.yld i _ H' x H3 _ s2 M2 hdi y
      obtain ⟨hl, step⟩ := hs i _ acc m' z hdi hI
      have sb : Sub (hide m H) (hide (m' ++ [(z, .lst acc)]) H3) := s1.trans (s2.trans s3)
      refine tm x σ (wipe σ vs) H3 _ (wipe_idem σ vs) ?_
      refine step (wipe σ vs) H3 x ((s.mono sb).wipe vs) M3 r3 _ fun δ4 m4 σ4 H4 q4 s4 S4 M4 => ?_
      refine q4 σ4 H4 S4 M4 _ fun b m5 H5 q5 s5 M5 => ?_
      cases b with
      | true =>
        have q5' : EW K te δ4 m5 fun y m4 => ∃ m5, m4 = m5 ++ [(z, .lst acc)] ∧ Iv (i + 1) (acc ++ [y]) m5 := q5
        refine q5' σ4 H5 (S4.mono s5) M5 _ fun yd m6 yv H6 q6 s6 M6 r6 => ?_
        obtain ⟨m7, e7, hI7⟩ := q6
        subst e7
        have hm : (m7 ++ [(z, Cell.lst acc)])[m7.length]? = some (z, Cell.lst acc) := by simp
        obtain ⟨xs, ex, rx⟩ := cell_at M6 hm
        have es : (m7 ++ [(z, Cell.lst acc)]).set m7.length (z, Cell.lst (acc ++ [yd])) = m7 ++ [(z, Cell.lst (acc ++ [yd]))] := by
          rw [List.set_append_right _ _ (Nat.le_refl _), Nat.sub_self]
          rfl
        have eh : hide (m7 ++ [(z, Cell.lst (acc ++ [yd]))]) (upd H6 z (.lst (xs ++ [yv]))) = hide (m7 ++ [(z, Cell.lst acc)]) H6 := by
          rw [← es]
          exact hide_set hm
        refine ⟨xs, ex, by rw [rx.length]; exact hl, acc ++ [yd], m7, hI7, ?_, ?_⟩
        · rw [eh]
          exact s2.trans (s3.trans (s4.trans (s5.trans s6)))
        · rw [← es]
          exact M6.set hm ⟨xs ++ [yv], upd_same, rx.snoc r6⟩
      | false =>
        have q5' : ∃ m6, m5 = m6 ++ [(z, .lst acc)] ∧ Iv (i + 1) acc m6 := q5
        obtain ⟨m7, e7, hI7⟩ := q5'
        subst e7
        exact ⟨acc, m7, hI7, s2.trans (s3.trans (s4.trans s5)), M5⟩
    · have e : i = ds.length := by omega
      subst e
      refine .inl ⟨fe.stop _ H' s2 M2, ?_⟩
      -- the finished list stands still
      have hm : (m' ++ [(z, Cell.lst acc)])[m'.length]? = some (z, Cell.lst acc) := by simp
      obtain ⟨xs, ex, rx⟩ := cell_at M2 hm
      have nd := M2.nd
      rw [List.map_append] at nd
      have nz : z ∉ m'.map Prod.fst := fun q => by
        have := (List.nodup_append.mp nd).2.2 z q z (by simp)
        exact this rfl
      have sb : Sub (hide (m' ++ [(z, Cell.lst acc)]) H') (hide m' H') := fun a o ea => by
        by_cases q : a ∈ (m' ++ [(z, Cell.lst acc)]).map Prod.fst
        · rw [hide_in q] at ea; cases ea
        · rw [hide_out q] at ea
          rw [hide_out (fun w => q (by rw [List.map_append]; exact List.mem_append_left _ w))]
          exact ea
      have M3 : MemOk K m' H' := ⟨(List.nodup_append.mp nd).1, fun p c hc => (M2.at_ p c (List.mem_append_left _ hc)).mono sb rfl⟩
      refine k (.lst acc) m' (.ref z) H' (hd acc m' hI) (s1.trans (s2.trans sb)) M3 (.lst ?_ (rx.mono sb))
      rw [hide_out nz]
      exact ex
end
end DL

set_option Elab.async false
set_option linter.all false
set_option maxRecDepth 100000
set_option maxHeartbeats 1000000
set_option autoImplicit false
namespace DL
open PySem PySem.Spec PyProof.Rows L2
section
variable {K : PySem.W.Frag} {δ : List (Option D)} {m : Mem} {Q : D → Mem → Prop} {te ta tb tc : TE} {F : Hp} {P : Ps} {t u : TS} {tt : TT} {g : TG} {wi : TI}
/-! ### a cell set still -/
theorem MemOk.drop {H : Hp} {p : Addr} {c : Cell} (M : MemOk K (m ++ [(p, c)]) H) : MemOk K m H ∧ Sub (hide (m ++ [(p, c)]) H) (hide m H) ∧ hide m H p = H p := by
  have nd := M.nd
  rw [List.map_append] at nd
  have nz : p ∉ m.map Prod.fst := fun q => (List.nodup_append.mp nd).2.2 p q p (by simp) rfl
  have sb : Sub (hide (m ++ [(p, c)]) H) (hide m H) := fun a o ea => by
    by_cases q : a ∈ (m ++ [(p, c)]).map Prod.fst
    · rw [hide_in q] at ea; cases ea
    · rw [hide_out q] at ea
      rw [hide_out (fun w => q (by rw [List.map_append]; exact List.mem_append_left _ w))]
      exact ea
  exact ⟨⟨(List.nodup_append.mp nd).1, fun q d hc => (M.at_ q d (List.mem_append_left _ hc)).mono sb rfl⟩, sb, hide_out nz⟩
/-- the data that a cell holds -/
def Cell.d : Cell → Option D
  | .lst ds => some (.lst ds)
  | .dic ds => some (.dic ds)
  | .ins C fs => some (.ins C fs)
  | .xd _ => none
  | .obj _ => none
  | .tbl _ => none
  | .dct _ _ => none
theorem still_of {H : Hp} {p : Addr} {c : Cell} {d : D} {F : Hp} (h : CellAt K F H p c) (e : c.d = some d) {G : Hp} (s : Sub F G) (k : G p = H p) : Rd K G (.ref p) d := by
  cases c with
  | lst ds => cases e; obtain ⟨xs, q, r⟩ := h; exact .lst (k.trans q) (r.mono s)
  | dic ds => cases e; obtain ⟨xs, q, n, r⟩ := h; exact .dic (k.trans q) n (r.mono s)
  | ins C ds => cases e; obtain ⟨dx, xs, q, n, r⟩ := h; exact .ins (k.trans q) n (r.mono s)
  | xd ds => cases e
  | obj o => cases e
  | tbl q => cases e
  | dct w ds => cases e
/-! ### more statements -/
theorem sw_par {i j : Nat} {t : TA} (h : AW K t δ m fun xs m1 => ∃ x y, xs = [x, y] ∧ P.nx ((δ.set i (some x)).set j (some y)) m1) : SW K (tPar i j t) δ m P := fun σ H s M E k =>
  h σ H s M _ fun xs m1 vs H1 ⟨x, y, e, q⟩ s1 M1 r1 => by
    subst e
    cases r1 with
    | cons r1 r2 =>
      cases r2 with
      | cons r2 r3 =>
        cases r3
        exact ⟨_, _, rfl, k.nx _ m1 _ H1 q s1 (((s.mono s1).set i r1).set j r2) M1⟩
theorem sw_par3 {i j l : Nat} {t : TA} (h : AW K t δ m fun xs m1 => ∃ x y z, xs = [x, y, z] ∧ P.nx (((δ.set i (some x)).set j (some y)).set l (some z)) m1) : SW K (tPar3 i j l t) δ m P := fun σ H s M E k =>
  h σ H s M _ fun xs m1 vs H1 ⟨x, y, z, e, q⟩ s1 M1 r1 => by
    subst e
    cases r1 with
    | cons r1 r2 =>
      cases r2 with
      | cons r2 r3 =>
        cases r3 with
        | cons r3 r4 =>
          cases r4
          exact ⟨_, _, _, rfl, k.nx _ m1 _ H1 q s1 ((((s.mono s1).set i r1).set j r2).set l r3) M1⟩
/-! ### methods of lists that are cells -/
theorem ew_bm {T : String} {r : V → List V → Hp → VK → Prop} {ta : TE} {t : TA} (h : EW K ta δ m fun x m1 => (∀ (H : Hp) (v : V), MemOk K m1 H → Rd K (hide m1 H) v x → tyV K T v H) ∧ AW K t δ m1 fun xs m2 => MW K r x xs m2 Q) : EW K (tBM K T r ta t) δ m Q := fun σ H s M QQ k =>
  h σ H s M _ fun x m1 v1 H1 ⟨ty, q1⟩ s1 M1 r1 => ⟨ty H1 v1 M1 r1, q1 σ H1 (s.mono s1) M1 _ fun ds m2 vs H2 q2 s2 M2 r2 => q2 H2 v1 vs M2 (r1.mono s2) r2 _ fun d m3 w H3 q3 s3 M3 r3 => k d m3 w H3 q3 (s1.trans (s2.trans s3)) M3 r3⟩
theorem ew_bm0 {T : String} {r : V → List V → Hp → VK → Prop} {ta : TE} (h : EW K ta δ m fun x m1 => (∀ (H : Hp) (v : V), MemOk K m1 H → Rd K (hide m1 H) v x → tyV K T v H) ∧ MW K r x [] m1 Q) : EW K (tBM0 K T r ta) δ m Q := fun σ H s M QQ k =>
  h σ H s M _ fun x m1 v1 H1 ⟨ty, q1⟩ s1 M1 r1 => ⟨ty H1 v1 M1 r1, q1 H1 v1 [] M1 r1 .nil _ fun d m3 w H3 q3 s3 M3 r3 => k d m3 w H3 q3 (s1.trans s3) M3 r3⟩
theorem ty_M {i : Nat} {p : Addr} {ds : List D} (hm : m[i]? = some (p, .lst ds)) : ∀ (H : Hp) (v : V), MemOk K m H → Rd K (hide m H) v (.adr p) → tyV K "list" v H := fun H v M r => by
  cases r
  obtain ⟨xs, e, _⟩ := cell_at M hm
  exact .inl ⟨rfl, xs, SqL.of e⟩
theorem ty_S {x : Str} : ∀ (H : Hp) (v : V), MemOk K m H → Rd K (hide m H) v (.str x) → tyV K "str" v H := fun H v M r => by
  cases r
  rfl
theorem set_cell {H : Hp} {i : Nat} {p : Addr} {c c' : Cell} {o : HO} (M : MemOk K m H) (hm : m[i]? = some (p, c)) (hc : CellAt K (hide m H) (upd H p o) p c') : MemOk K (m.set i (p, c')) (upd H p o) ∧ Sub (hide m H) (hide (m.set i (p, c')) (upd H p o)) := by
  refine ⟨M.set hm hc, ?_⟩
  rw [hide_set hm]
  exact Sub.refl _
theorem mw_append {i : Nat} {p : Addr} {ds : List D} {d : D} (hm : m[i]? = some (p, .lst ds)) (hl : ds.length < sizeLine) (q : Q .non (m.set i (p, .lst (ds ++ [d])))) : MW K rAppend (.adr p) [d] m Q := fun H v vs M a b QQ k => by
  cases a
  cases b with
  | cons b n =>
    cases n
    obtain ⟨xs, e, r⟩ := cell_at M hm
    obtain ⟨M2, s2⟩ := set_cell (c' := .lst (ds ++ [d])) (o := .lst (xs ++ [_])) M hm ⟨_, upd_same, r.snoc b⟩
    exact ⟨p, xs, _, rfl, rfl, e, by rw [r.length]; exact hl, k .non _ .non _ q s2 M2 .non⟩
theorem RdL.top {H : Hp} {v : List V} {d : List D} (r : RdL K (hide m H) v d) : RdL K H v d := r.mono hide_le
/-! ### in: lists, tuples of plain data; dicts; sets; a sign in a text -/
def D.flat : D → Bool
  | .non => true
  | .bl _ => true
  | .int _ => true
  | .str _ => true
  | _ => false
def D.eqf : D → D → Bool
  | .non, .non => true
  | .bl a, .bl b => a == b
  | .bl a, .int b => (if a then 1 else 0) == b
  | .int a, .bl b => a == (if b then 1 else 0)
  | .int a, .int b => a == b
  | .str a, .str b => a == b
  | _, _ => false
theorem flat_v {F : Hp} {v : V} {d : D} (r : Rd K F v d) (h : d.flat = true) : flatV v = true := by cases r <;> simp_all [D.flat, flatV]
theorem eqf_v {F : Hp} {v w : V} {d e : D} (r : Rd K F v d) (s : Rd K F w e) (h : d.flat = true) (h' : e.flat = true) : eqV v w = d.eqf e := by
  cases r <;> cases s <;> simp_all [D.flat, eqV, D.eqf]
theorem flats_v {F : Hp} : ∀ {vs : List V} {ds : List D}, RdL K F vs ds → ds.all D.flat = true → vs.all flatV = true
  | _, _, .nil, _ => rfl
  | _, _, .cons r s, h => by
    rw [List.all_cons, Bool.and_eq_true] at h
    rw [List.all_cons, flat_v r h.1, flats_v s h.2]
    rfl
theorem any_v {F : Hp} {w : V} {e : D} (s : Rd K F w e) (h' : e.flat = true) : ∀ {vs : List V} {ds : List D}, RdL K F vs ds → ds.all D.flat = true → (vs.any fun y => eqV y w) = ds.any fun y => y.eqf e
  | _, _, .nil, _ => rfl
  | _, _, .cons r t, h => by
    rw [List.all_cons, Bool.and_eq_true] at h
    rw [List.any_cons, List.any_cons, eqf_v r s h.1 h', any_v s h' t h.2]
def rDctIn (neg : Bool) : R2 := fun y x H Q => ∃ (a : Addr) (o : Option V), x = .ref a ∧ DGet H a y o ∧ Q (.bl (if neg then !o.isSome else o.isSome)) H
theorem op_dctIn {X : Cx} (hu : X.A.units + 64 < cLine) : OpR X (compareOp .In) (rDctIn false) := by
  intro pins s σ H y x v u Q I ry rx h
  obtain ⟨a, o, rfl, g, q⟩ := h
  cases rx
  exact d_in (by omega) I g ry fun s' I' => ⟨.bl o.isSome, H, I', rfl, q⟩
def rSgn : R2 := fun x y H Q => ∃ (c : Nat) (z : Str), x = .str ⟨#[c]⟩ ∧ y = .str z ∧ Q (.bl (decide (c ∈ z.cps.toList))) H
def rInU (P : Program) (w : World) (K : PySem.W.Frag) : R2 := fun x y H Q => rIn K false x y H Q ∨ (rDctIn false x y H Q ∨ (rSInK P w false x y H Q ∨ rSgn x y H Q))
theorem op_inU {X : Cx} (hu : X.A.units + 64 < cLine) : OpR X (compareOp .In) (rInU X.prog X.w X.K) := OpR.or op_in_seq (OpR.or (op_dctIn hu) (OpR.or or_sinK op_in_sign))
section
variable {Pg : Program} {w : World}
theorem rin_L {neg : Bool} {ds : List D} {d : D} (hf : ds.all D.flat = true) (hd : d.flat = true) (q : Q (.bl (if neg then !ds.any (fun y => y.eqf d) else ds.any (fun y => y.eqf d))) m) : OW K (rIn K neg) d (.lst ds) m Q := fun H v u M a b QQ k => by
  obtain ⟨p, xs, rfl, e, r⟩ := lst_at b
  exact ⟨p, xs, rfl, .inl (SqL.of e), flat_v a hd, flats_v r hf, k _ m _ H q (Sub.refl _) M (by unfold inV; rw [any_v a hd r hf]; exact .bl _)⟩
theorem dicM_at {H : Hp} {i : Nat} {p : Addr} {ds : List (Key × D)} (M : MemOk K m H) (h : m[i]? = some (p, .dic ds)) : ∃ xs : List (Key × V), H p = some (.dK xs) ∧ xs.map Prod.fst = ds.map Prod.fst ∧ RdL K (hide m H) (xs.map Prod.snd) (ds.map Prod.snd) := M.get h
/-- a set of numbers and texts, a cell -/
def setC (Pg : Program) (w : World) (p : Addr) (S : Key → Bool) (n : Nat) : Cell := .obj (SetK Pg w p S n)
theorem rin_S {neg : Bool} {i : Nat} {p : Addr} {S : Key → Bool} {n : Nat} {x : Key} (hm : m[i]? = some (p, setC Pg w p S n)) (q : Q (.bl (if neg then !S x else S x)) m) : OW K (rSInK Pg w neg) (kD x) (.adr p) m Q := fun H v u M a b QQ k => by
  cases b
  have ea := kD_v a
  subst ea
  exact ⟨x, p, S, n, rfl, rfl, M.get hm, k _ m _ H q (Sub.refl _) M (.bl _)⟩
theorem cw_set0 (q : ∀ p, Q (.adr p) (m ++ [(p, setC Pg w p (fun _ => false) 0)])) : CW K (rSet0K Pg w) [] m Q := fun H vs M a QQ k => by
  cases a
  refine ⟨rfl, fun p hp => ?_⟩
  have e : hide (m ++ [(p, setC Pg w p (fun _ => false) 0)]) (upd H p (SetK Pg w p (fun _ => false) 0)) = hide m H := hide_cell hp
  exact k _ _ _ _ (q p) (by rw [e]; exact Sub.refl _) (M.cell (c := setC Pg w p (fun _ => false) 0) hp upd_same) (.adr p)
theorem ew_saddK {ta : TE} {t : TA} (h : EW K ta δ m fun x m1 => (∃ (p : Addr) (i : Nat) (S : Key → Bool) (n : Nat), x = .adr p ∧ m1[i]? = some (p, setC Pg w p S n)) ∧ AW K t δ m1 fun xs m2 => ∃ (p : Addr) (i : Nat) (S : Key → Bool) (n : Nat) (k : Key), x = .adr p ∧ xs = [kD k] ∧ m2[i]? = some (p, setC Pg w p S n) ∧ n + 1 < scanBound ∧
      Q .non (m2.set i (p, setC Pg w p (fun j => S j || decide (j = k)) (if S k = true then n else n + 1)))) : EW K (tSAddK Pg w ta t) δ m Q := fun σ H s M QQ k =>
  h σ H s M _ fun x m1 v1 H1 ⟨⟨p, i, S, n, ex, hm⟩, q1⟩ s1 M1 r1 => by
    subst ex
    cases r1
    refine ⟨⟨p, S, n, rfl, M1.get hm⟩, q1 σ H1 (s.mono s1) M1 _ fun ds m2 vs H2 ⟨p', i', S', n', kk, e1, e2, hm', hn, q2⟩ s2 M2 r2 => ?_⟩
    cases e1
    subst e2
    cases r2 with
    | cons r2 r3 =>
      cases r3
      have ea := kD_v r2
      subst ea
      obtain ⟨M3, s3⟩ := set_cell (c' := setC Pg w p (fun j => S' j || decide (j = kk)) (if S' kk = true then n' else n' + 1)) (o := SetK Pg w p (fun j => S' j || decide (j = kk)) (if S' kk = true then n' else n' + 1)) M2 hm' upd_same
      exact ⟨p, kk, S', n', rfl, rfl, M2.get hm', hn, k _ _ _ _ q2 (s1.trans (s2.trans s3)) M3 .non⟩
theorem ow_sgn {c : Nat} {z : Str} (q : Q (.bl (decide (c ∈ z.cps.toList))) m) : OW K rSgn (.str ⟨#[c]⟩) (.str z) m Q := fun H v u M a b QQ k => by
  cases a
  cases b
  exact ⟨c, z, rfl, rfl, k _ m _ H q (Sub.refl _) M (.bl _)⟩
end
/-! ### dicts -/
def putD (kvs : List (Key × D)) (k : Key) (d : D) : List (Key × D) := if (kvs.any fun kv => decide (kv.1 = k)) = true then kvs.map (fun kv => if kv.1 = k then (kv.1, d) else kv) else kvs ++ [(k, d)]
theorem putD_rel {F : Hp} {k : Key} {v : V} {d : D} (rv : Rd K F v d) {vs : List (Key × V)} {ds : List (Key × D)} (n : vs.map Prod.fst = ds.map Prod.fst) (r : RdL K F (vs.map Prod.snd) (ds.map Prod.snd)) :
    (putK vs k v).map Prod.fst = (putD ds k d).map Prod.fst ∧ RdL K F ((putK vs k v).map Prod.snd) ((putD ds k d).map Prod.snd) := by
  have ha : (vs.any fun kv => decide (kv.1 = k)) = (ds.any fun kv => decide (kv.1 = k)) := by
    have e1 : (vs.any fun kv => decide (kv.1 = k)) = ((vs.map Prod.fst).any fun x => decide (x = k)) := by rw [List.any_map]; rfl
    have e2 : (ds.any fun kv => decide (kv.1 = k)) = ((ds.map Prod.fst).any fun x => decide (x = k)) := by rw [List.any_map]; rfl
    rw [e1, e2, n]
  unfold putK putD
  rw [ha]
  by_cases c : (ds.any fun kv => decide (kv.1 = k)) = true
  · rw [if_pos c, if_pos c]
    clear ha c
    have key : ∀ (vs : List (Key × V)) (ds : List (Key × D)), vs.map Prod.fst = ds.map Prod.fst → RdL K F (vs.map Prod.snd) (ds.map Prod.snd) →
        (vs.map (fun kv => if kv.1 = k then (kv.1, v) else kv)).map Prod.fst = (ds.map (fun kv => if kv.1 = k then (kv.1, d) else kv)).map Prod.fst ∧ RdL K F ((vs.map (fun kv => if kv.1 = k then (kv.1, v) else kv)).map Prod.snd) ((ds.map (fun kv => if kv.1 = k then (kv.1, d) else kv)).map Prod.snd) := by
      intro vs
      induction vs with
      | nil =>
        intro ds n r
        cases ds with
        | nil => exact ⟨rfl, .nil⟩
        | cons => simp at n
      | cons p vs ih =>
        intro ds n r
        cases ds with
        | nil => simp at n
        | cons q ds =>
          obtain ⟨k1, v1⟩ := p
          obtain ⟨k2, d2⟩ := q
          simp only [List.map_cons, List.cons.injEq] at n
          obtain ⟨n1, n2⟩ := n
          subst n1
          cases r with
          | cons r1 r2 =>
            obtain ⟨a, b⟩ := ih ds n2 r2
            by_cases e : k1 = k
            · simp only [List.map_cons, if_pos e]
              exact ⟨by rw [a], .cons rv b⟩
            · simp only [List.map_cons, if_neg e]
              exact ⟨by rw [a], .cons r1 b⟩
    exact key vs ds n r
  · rw [if_neg c, if_neg c, List.map_append, List.map_append, List.map_append, List.map_append, n]
    exact ⟨rfl, r.append (.cons rv .nil)⟩
theorem ew_dnew (q : Q (.dic []) m) : EW K tDNewK δ m Q := fun σ H s M QQ k => fun p hp => by
  obtain ⟨M2, s2⟩ := M.new (o := .dK []) hp
  refine k _ m _ _ q s2 M2 (.dic (vs := []) ?_ rfl .nil)
  rw [hide_new M hp]
  exact upd_same
/-! ### instances -/
def putFD (f : Str) (d : D) : List (Str × D) → List (Str × D)
  | [] => [(f, d)]
  | (g, x) :: r => if g = f then (g, d) :: r else (g, x) :: putFD f d r
theorem putF_rel {F : Hp} {f : Str} {v : V} {d : D} (rv : Rd K F v d) : ∀ {vs : List (Str × V)} {ds : List (Str × D)}, vs.map Prod.fst = ds.map Prod.fst → RdL K F (vs.map Prod.snd) (ds.map Prod.snd) → (putF f v vs).map Prod.fst = (putFD f d ds).map Prod.fst ∧ RdL K F ((putF f v vs).map Prod.snd) ((putFD f d ds).map Prod.snd)
  | [], [], _, _ => ⟨rfl, .cons rv .nil⟩
  | [], _ :: _, n, _ => by simp at n
  | _ :: _, [], n, _ => by simp at n
  | (k1, v1) :: vs, (k2, d2) :: ds, n, r => by
    simp only [List.map_cons, List.cons.injEq] at n
    obtain ⟨n1, n2⟩ := n
    subst n1
    cases r with
    | cons r1 r2 =>
      unfold L2.putF putFD
      by_cases e : k1 = f
      · rw [if_pos e, if_pos e]
        exact ⟨by rw [List.map_cons, List.map_cons, n2], .cons rv r2⟩
      · rw [if_neg e, if_neg e]
        obtain ⟨a, b⟩ := putF_rel (f := f) rv n2 r2
        exact ⟨by rw [List.map_cons, List.map_cons, a], .cons r1 b⟩
theorem lookup_rel {F : Hp} {f : Str} : ∀ {vs : List (Str × V)} {ds : List (Str × D)}, vs.map Prod.fst = ds.map Prod.fst → RdL K F (vs.map Prod.snd) (ds.map Prod.snd) → (∀ d, ds.lookup f = some d → ∃ v, vs.lookup f = some v ∧ Rd K F v d) ∧ (ds.lookup f = none → vs.lookup f = none)
  | [], [], _, _ => ⟨fun d h => (nomatch h), fun _ => rfl⟩
  | [], _ :: _, n, _ => by simp at n
  | _ :: _, [], n, _ => by simp at n
  | (k1, v1) :: vs, (k2, d2) :: ds, n, r => by
    simp only [List.map_cons, List.cons.injEq] at n
    obtain ⟨n1, n2⟩ := n
    subst n1
    cases r with
    | cons r1 r2 =>
      have ih := lookup_rel (f := f) n2 r2
      by_cases e : f = k1
      · have hb : (f == k1) = true := by simpa using e
        simp only [List.lookup, hb]
        exact ⟨fun d h => (by cases h; exact ⟨_, rfl, r1⟩), fun h => (nomatch h)⟩
      · have hb : (f == k1) = false := by simpa using e
        simp only [List.lookup, hb]
        exact ih
theorem ins_at {H : Hp} {v : V} {C : Addr} {ds : List (Str × D)} (r : Rd K (hide m H) v (.ins C ds)) : ∃ (a dx : Addr) (xs : List (Str × V)), v = .ref a ∧ H a = some (.ins C dx xs) ∧ xs.map Prod.fst = ds.map Prod.fst ∧ RdL K (hide m H) (xs.map Prod.snd) (ds.map Prod.snd) := by
  cases r with
  | ins e n r => exact ⟨_, _, _, rfl, hide_le _ _ e, n, r⟩
theorem insM_at {H : Hp} {i : Nat} {p C : Addr} {ds : List (Str × D)} (M : MemOk K m H) (h : m[i]? = some (p, .ins C ds)) : ∃ (dx : Addr) (xs : List (Str × V)), H p = some (.ins C dx xs) ∧ xs.map Prod.fst = ds.map Prod.fst ∧ RdL K (hide m H) (xs.map Prod.snd) (ds.map Prod.snd) := M.get h
theorem ew_fld {f : Str} (h : EW K ta δ m fun x m1 => ∃ (C : Addr) (fs : List (Str × D)) (d : D), x = .ins C fs ∧ Cls K C ∧ NoAttr K C f ∧ fs.lookup f = some d ∧ Q d m1) : EW K (tFld K ta f) δ m Q := fun σ H s M QQ k =>
  h σ H s M _ fun x m1 v H1 ⟨C, fs, d, ex, c, n, l, q⟩ s1 M1 r1 => by
    subst ex
    obtain ⟨a, dx, xs, rfl, e, nm, r⟩ := ins_at r1
    obtain ⟨w, e1, r2⟩ := (lookup_rel (f := f) nm r).1 d l
    exact ⟨a, C, dx, xs, w, rfl, e, c, n, e1, k d m1 w H1 q s1 M1 r2⟩
theorem sw_fld {tv : TE} {f : Str} (h : EW K tv δ m fun d m1 => EW K ta δ m1 fun x m2 => ∃ (i : Nat) (p C : Addr) (fs : List (Str × D)), x = .adr p ∧ m2[i]? = some (p, .ins C fs) ∧ Cls K C ∧ NoAttr K C f ∧ fs.length < 1000 ∧ P.nx δ (m2.set i (p, .ins C (putFD f d fs)))) : SW K (sFld K ta tv f) δ m P := fun σ H s M E k =>
  h σ H s M _ fun d m1 v H1 q1 s1 M1 r1 => q1 σ H1 (s.mono s1) M1 _ fun x m2 vx H2 ⟨i, p, C, fs, ex, hm, c, n, hl, q⟩ s2 M2 r2 => by
    subst ex
    cases r2
    obtain ⟨dx, xs, e, nm, r⟩ := insM_at M2 hm
    obtain ⟨a, b⟩ := putF_rel (f := f) (r1.mono s2) nm r
    have hlen : xs.length = fs.length := by simpa using congrArg List.length nm
    obtain ⟨M3, s3⟩ := set_cell (c' := .ins C (putFD f d fs)) (o := .ins C dx (putF f v xs)) M2 hm ⟨dx, _, upd_same, a, b⟩
    exact ⟨p, C, dx, xs, rfl, e, c, n, by rw [hlen]; exact hl, k.nx δ _ σ _ q (s1.trans (s2.trans s3)) (s.mono (s1.trans (s2.trans s3))) M3⟩
/-- C(..): the new instance is a cell while __init__ runs, then still -/
theorem ew_make {C : Addr} {Pf : FS} {E : XK} {t : TA} {dvs : List V} {dd : List D} (hd : ∀ F, RdL K F dvs dd) (h : AW K t δ m fun ds m1 => ∀ p, Pf (.adr p :: (ds ++ dd)) (m1 ++ [(p, .ins C [])]) fun d m2 => d = .non ∧ ∃ (m3 : Mem) (fs : List (Str × D)), m2 = m3 ++ [(p, .ins C fs)] ∧ Q (.ins C fs) m3) : EW K (tMake C (spOf K Pf) dvs E t) δ m Q := fun σ H s M QQ k =>
  h σ H s M _ fun ds m1 vs H1 q1 s1 M1 r1 => by
    intro x dx hx hdx hne
    have hx2 : upd H1 dx (.own x) x = none := by rw [upd_ne (Ne.symm hne)]; exact hx
    obtain ⟨M2, s2⟩ := M1.new (o := .own x) hdx
    have e : hide (m1 ++ [(x, Cell.ins C [])]) (upd (upd H1 dx (.own x)) x (.ins C dx [])) = hide m1 (upd H1 dx (.own x)) := hide_cell hx2
    have M3 : MemOk K (m1 ++ [(x, Cell.ins C [])]) (upd (upd H1 dx (.own x)) x (.ins C dx [])) := M2.cell (c := .ins C []) hx2 ⟨dx, [], upd_same, rfl, .nil⟩
    have s3 : Sub (hide m1 H1) (hide (m1 ++ [(x, Cell.ins C [])]) (upd (upd H1 dx (.own x)) x (.ins C dx []))) := by rw [e]; exact s2
    refine ⟨.adr x :: (ds ++ dd), m1 ++ [(x, .ins C [])], _, .cons (.adr x) ((r1.mono s3).append (hd _)), M3, q1 x, fun d m' v H' ⟨ed, m4, fs, em, q⟩ s4 M4 r4 => ?_⟩
    subst ed
    subst em
    cases r4
    obtain ⟨M5, sb, hp⟩ := M4.drop
    exact ⟨rfl, k _ m4 _ H' q (s1.trans (s3.trans (s4.trans sb))) M5 (still_of (d := .ins C fs) (M4.at_ x (.ins C fs) (by simp)) rfl sb hp)⟩
theorem ew_prop {C : Addr} {Pf : FS} {E : XK} (h : EW K ta δ m fun x m1 => ∃ fs, x = .ins C fs ∧ Pf [x] m1 Q) : EW K (tProp C (spOf K Pf) [] E ta) δ m Q := fun σ H s M QQ k =>
  h σ H s M _ fun x m1 v H1 ⟨fs, ex, q⟩ s1 M1 r1 => by
    have r1' := r1
    rw [ex] at r1'
    obtain ⟨a, dx, xs, ev, e, nm, r⟩ := ins_at r1'
    subst ev
    exact ⟨a, dx, xs, rfl, e, [x], m1, Q, .cons r1 .nil, M1, q, fun d m' v H' q2 s2 M2 r2 => k d m' v H' q2 (s1.trans s2) M2 r2⟩
/-! ### isinstance -/
def D.tyN : D → Option String
  | .non => some "NoneType"
  | .bl _ => some "bool"
  | .int _ => some "int"
  | .str _ => some "str"
  | .lst _ => some "list"
  | .tup _ => some "tuple"
  | .dic _ => some "dict"
  | _ => none
theorem cw_isi {x : D} {n c : String} {b : Bool} (hx : x.tyN = some n) (hk : kitB n c = some b) (ht : ∀ ds, x ≠ .tup ds) (q : Q (.bl b) m) : CW K (rIsi K) [x, .ty c] m Q := fun H vs M a QQ k => by
  cases a with
  | cons a a2 =>
    cases a2 with
    | cons a2 a3 =>
      cases a3
      cases a2
      have fin := k _ m _ H q (Sub.refl _) M (.bl b)
      cases a with
      | non => cases hx; exact ⟨_, _, _, _, b, rfl, .ty c, .base .non, kit_ty hk, fin⟩
      | bl z => cases hx; exact ⟨_, _, _, _, b, rfl, .ty c, .base (.bl z), kit_ty hk, fin⟩
      | int z => cases hx; exact ⟨_, _, _, _, b, rfl, .ty c, .base (.int z), kit_ty hk, fin⟩
      | str z => cases hx; exact ⟨_, _, _, _, b, rfl, .ty c, .base (.str z), kit_ty hk, fin⟩
      | lst e r => cases hx; exact ⟨_, _, _, _, b, rfl, .ty c, .base (.lst (hide_le _ _ e)), kit_ty hk, fin⟩
      | tup e r => exact absurd rfl (ht _)
      | dic e n r => cases hx; exact ⟨_, _, _, _, b, rfl, .ty c, .base (.dK (hide_le _ _ e)), kit_ty hk, fin⟩
      | _ => cases hx
theorem ew_ty {n : String} (q : Q (.ty n) m) : EW K (tC (.ty n)) δ m Q := fun σ H s M QQ k => k _ m _ H q (Sub.refl _) M (.ty n)
theorem ew_ref {a : Addr} (q : Q (.adr a) m) : EW K (tC (.ref a)) δ m Q := fun σ H s M QQ k => k _ m _ H q (Sub.refl _) M (.adr a)
/-! ### texts -/
theorem cw_join {x : Str} {ys : List Str} (hz : (ys.map (·.length)).sum + ys.length * x.length ≤ 16777216) (q : Q (.str (Txt.join x ys)) m) : MW K (fun v xs H Q => ∃ a p, ∃ ys : List Str, v = .str a ∧ xs = [.ref p] ∧ (SqL K H p (ys.map V.str) ∨ SqT K H p (ys.map V.str)) ∧ (ys.map (·.length)).sum + ys.length * a.length ≤ 16777216 ∧ Q (.str (Txt.join a ys)) H) (.str x) [.lst (ys.map D.str)] m Q := fun H v vs M a b QQ k => by
  cases a
  cases b with
  | cons b b2 =>
    cases b2
    obtain ⟨p, xs, rfl, e, r⟩ := lst_at b
    have := r.strs_v
    subst this
    exact ⟨x, p, ys, rfl, rfl, .inl (SqL.of e), hz, k _ m _ H q (Sub.refl _) M (.str _)⟩
/-! ### xs[::-1] -/
theorem ew_revL {te : TE} (h : EW K te δ m fun x m1 => ∃ ds, x = .lst ds ∧ Q (.lst ds.reverse) m1) : EW K (tRevL K te) δ m Q := fun σ H s M QQ k =>
  h σ H s M _ fun x m1 v H1 ⟨ds, ex, q⟩ s1 M1 r1 => by
    subst ex
    obtain ⟨p, xs, rfl, e, r⟩ := lst_at r1
    refine ⟨p, xs, rfl, SqL.of e, fun z hz => ?_⟩
    obtain ⟨M2, s2, r3⟩ := new_lst M1 r.reverse hz
    exact k _ m1 _ _ q (s1.trans s2) M2 r3
end
end DL

set_option Elab.async false
set_option linter.all false
set_option maxRecDepth 100000
set_option maxHeartbeats 1000000
set_option autoImplicit false
namespace DL
open PySem PySem.Spec PyProof.Rows L2
/-! ### defs, their promises, their calls -/
/-- what stands at a function's address -/
def FdAt (K : PySem.W.Frag) (f : Addr) (fd : FuncData) : Prop := ∃ (oc : Value) (od : Option Addr) (osl : Array (Option Value)), K.lookup f = some ⟨oc, od, .func fd, osl⟩
theorem Fnc.fdAt {K : PySem.W.Frag} {x qual : Str} {st : Stmt} {f : Addr} {fd : FuncData} (F : Fnc K x qual st f fd) : FdAt K f fd := let ⟨oc, od, _, _, _, _, _, _, _, sl, _, _, l⟩ := F.is; ⟨oc, od, sl, l⟩
def Def (P : Program) (w : World) (K : PySem.W.Frag) (mg : Str → Option Value) (base : Heap) (k : Nat) (f : Addr) (ps : List Str) (Pf : FS) : Prop := ∃ fd, FnOk P w K mg base CX0 k f fd ps (spOf K Pf) ∧ Binds K fd ps [] ∧ FdAt K f fd
def DefG (P : Program) (w : World) (K : PySem.W.Frag) (mg : Str → Option Value) (base : Heap) (k : Nat) (f : Addr) (ps : List Str) (Pf : FS) : Prop := ∃ fd, FnG P w K mg base k f fd ps (spOf K Pf) ∧ Binds K fd ps [] ∧ FdAt K f fd
/-- how a def stands behind the top -/
def Has (K : PySem.W.Frag) (x qual : Str) (st : Stmt) (f : Addr) (ps : List Str) : Prop := ∃ fd, Fnc K x qual st f fd ∧ Binds K fd ps []
section
variable {P : Program} {w : World} {K : PySem.W.Frag} {mg : Str → Option Value} {base : Heap} {f : Addr} {ps : List Str} {Pf : FS} {k : Nat}
theorem Def.g (h : Def P w K mg base k f ps Pf) : DefG P w K mg base k f ps Pf := let ⟨fd, F, b⟩ := h; ⟨fd, FnG.of F, b⟩
theorem Def.up {j : Nat} (h : Def P w K mg base j f ps Pf) (l : j ≤ k) : Def P w K mg base k f ps Pf := let ⟨fd, F, b⟩ := h; ⟨fd, F.mono l, b⟩
theorem DefG.up {j : Nat} (h : DefG P w K mg base j f ps Pf) (l : j ≤ k) : DefG P w K mg base k f ps Pf := let ⟨fd, F, b⟩ := h; ⟨fd, F.up l, b⟩
theorem Def.imp {Pf' : FS} (h : Def P w K mg base k f ps Pf) (i : ∀ ds m Q, Pf' ds m Q → Pf ds m Q) : Def P w K mg base k f ps Pf' := let ⟨fd, F, b⟩ := h
  ⟨fd, F.imp fun vs H Q E ⟨ds, m, QS, r, M, p, k⟩ => ⟨ds, m, QS, r, M, i _ _ _ p, k⟩, b⟩
/-- a def's promise from its body -/
theorem defOk {x qual : Str} {st : Stmt} {N : List Str} (h : Has K x qual st f ps) (S : FnScope N ps (defScope st)) {t : TS} (hlen : ∀ ds m Q, Pf ds m Q → ds.length = ps.length)
    (hd : ∀ (cdv : Value) (A : Around) (outer : List Env) (s : Shared) (H : Hp) (E : XK), Room k (A.deeper (envOfC qual (defScope st) s.heap.objs.size f cdv)) → PSs (cxOf CX0 P w K mg base N qual (defScope st) f cdv A outer s H E).nox (defBody st) t)
    (hs : ∀ ds m (Q : D → Mem → Prop), Pf ds m Q → SW K t (startD N.length ds) m { nx := fun _ m' => Q .non m', rt := Q }) : Def P w K mg base (k + 1) f ps Pf := let ⟨fd, F, b⟩ := h; ⟨fd, okD F S hlen hd hs, b, Fnc.fdAt F⟩
theorem defOkG {x qual : Str} {st : Stmt} {N : List Str} (h : Has K x qual st f ps) (S : FnScope N ps (defScope st)) {t : TS} (hlen : ∀ ds m Q, Pf ds m Q → ds.length = ps.length)
    (hd : ∀ (cdv : Value) (A : Around) (outer : List Env) (s : Shared) (H : Hp), A.guards = some [] → Room k (A.deeper (envOfC qual (defScope st) s.heap.objs.size f cdv)) → PSs (cxOf CX0 P w K mg base N qual (defScope st) f cdv A outer s H E0).nox (defBody st) t)
    (hs : ∀ ds m (Q : D → Mem → Prop), Pf ds m Q → SW K t (startD N.length ds) m { nx := fun _ m' => Q .non m', rt := Q }) : DefG P w K mg base (k + 1) f ps Pf := let ⟨fd, F, b⟩ := h; ⟨fd, okG F S hlen hd hs, b, Fnc.fdAt F⟩
end
section
variable {X : Cx} {k : Nat} {f C : Addr} {ps : List Str} {Pf : FS} {x : Str} {p pos : Pos} {e : Expr} {es : List Expr} {t : TA} {ta : TE}
theorem pe_def (D : Def X.prog X.w X.K X.mg X.base k f ps Pf) (hr : Room k X.A) (hg : Gl X x) (hm : X.mg x = some (.ref f)) (hk : PySem.W.keepIn X.K (.ref f) = true) (ha : PA X (e :: es) t)
    (hdb : (x == ("__debug__" : Str)) = false := by decide) (he : starEach (e :: es) X.env = (false, eval e X.env) :: starEach es X.env := by rfl) (hpl : (backTo pos (starEach es X.env)).any (·.1) = false := by rfl) :
    PE X (.Call (.Name x p) (e :: es) [] pos) (tCall (spOf X.K Pf) [] E0 t) := let ⟨_, F, b, _⟩ := D; pe_call F hr hg hm hk b .nil pass0 ha hdb he hpl
theorem pe_defG (hg0 : X.A.guards = some []) (D : DefG X.prog X.w X.K X.mg X.base k f ps Pf) (hr : Room k X.A) (hg : Gl X x) (hm : X.mg x = some (.ref f)) (hk : PySem.W.keepIn X.K (.ref f) = true) (ha : PA X (e :: es) t)
    (hdb : (x == ("__debug__" : Str)) = false := by decide) (he : starEach (e :: es) X.env = (false, eval e X.env) :: starEach es X.env := by rfl) (hpl : (backTo pos (starEach es X.env)).any (·.1) = false := by rfl) :
    PE X (.Call (.Name x p) (e :: es) [] pos) (tCall (spOf X.K Pf) [] E0 t) := let ⟨_, F, b, _⟩ := D; pe_callG hg0 F hr hg hm hk b .nil ha hdb he hpl
theorem pe_propD {nm : Str} (he : PE X e ta) (c : Cls X.K C) (hp : ∃ q, PropOf X.K C nm q f) (D : Def X.prog X.w X.K X.mg X.base k f ps Pf) (hr : Room (k + 1) X.A) (hab : attributeBase e nm X.env (eval e X.env) = eval e X.env) :
    PE X (.Attribute e nm pos) (tProp C (spOf X.K Pf) [] E0 ta) := let ⟨_, F, b, _⟩ := D; let ⟨_, q⟩ := hp; pe_prop he c q F hr b .nil pass0 hab
end
/-! ### wide arithmetic -/
def CPowW (i j : Int) : Prop := 0 ≤ j ∧ (Builtin.Int.intBits i : Int) * j ≤ 2 ^ 27
theorem op_powW {X : Cx} : OpR X (binaryOp .Pow) (rI CPowW fun i j => .int (i ^ j.toNat)) := opI fun i j _ _ _ _ _ hc q => pow_int hc.1 hc.2 q
theorem op_mulS {X : Cx} : OpR X (binaryOp .Mult) (fun x y H Q => ∃ (z : Str) (n : Int), x = .str z ∧ y = .int n ∧ PySem.MulOk z n ∧ Q (.str (Txt.mul z n)) H) := by
  intro pins s σ H x y v u Q I rx ry h
  obtain ⟨z, n, rfl, rfl, hk, q⟩ := h
  obtain ⟨t1, rfl⟩ := rx
  obtain ⟨t2, rfl⟩ := ry
  exact SB.mul hk fun t' k => ⟨.str (Txt.mul z n), H, I.tok _, ⟨_, rfl⟩, q⟩
def rMulS : R2 := fun x y H Q => ∃ (z : Str) (n : Int), x = .str z ∧ y = .int n ∧ PySem.MulOk z n ∧ Q (.str (Txt.mul z n)) H
def rMulU : R2 := fun x y H Q => rI CMul (fun i j => .int (i * j)) x y H Q ∨ (rI CMulW (fun i j => .int (i * j)) x y H Q ∨ rMulS x y H Q)
theorem op_mulU {X : Cx} : OpR X (binaryOp .Mult) rMulU := OpR.or op_mul (OpR.or op_mulW op_mulS)
section
variable {K : PySem.W.Frag} {δ : List (Option D)} {m : Mem} {Q : D → Mem → Prop} {te ta tb tc : TE} {F : Hp} {P : Ps} {t u : TS} {tt : TT} {g : TG} {wi : TI}
theorem ow_mul1 {i j : Int} (h : -(2 ^ 64) < j ∧ j < 2 ^ 64) (q : Q (.int (i * j)) m) : OW K rMulU (.int i) (.int j) m Q := ow_or1 (ow_ic (g := fun i j => i * j) (.inr h) q)
theorem ow_mul2 {i j : Int} (h : -(2 ^ 64) < i ∧ i < 2 ^ 64) (q : Q (.int (i * j)) m) : OW K rMulU (.int i) (.int j) m Q := ow_or1 (ow_ic (g := fun i j => i * j) (.inl h) q)
end
end DL

set_option Elab.async false
set_option linter.all false
set_option maxRecDepth 100000
set_option maxHeartbeats 1000000
set_option autoImplicit false
namespace DL
open PySem PySem.Spec PyProof.Rows L2
/-! ### the rules, with the written part by its own name -/
section
variable {X : Cx} (K : PySem.W.Frag) (hK : X.K = K)
include hK
theorem kx_ix (hu : X.A.units + 64 < cLine) : IxR X (rIxU K) := by subst hK; exact ix_U hu
theorem kx_sl : SlR X (rSlU K) := by subst hK; exact sl_U
theorem kx_in (P : Program) (w : World) (hP : X.prog = P) (hw : X.w = w) (hu : X.A.units + 64 < cLine) : OpR X (compareOp .In) (rInU P w K) := by subst hK; subst hP; subst hw; exact op_inU hu
theorem kx_len : CallR X (.builtin "len") (rLenU K) := by subst hK; exact cr_lenU
theorem kx_list : CallR X (.type "list") (rListU K) := by subst hK; exact cr_listU
theorem kx_all (hc : X.calm = true) : CallR X (.builtin "all") (rAll K) := by subst hK; exact cr_all hc
theorem kx_isi : CallR X (.builtin "isinstance") (rIsi K) := by subst hK; exact call_isi
def rJoin (K : PySem.W.Frag) : V → List V → Hp → VK → Prop := fun v xs H Q => ∃ a p, ∃ ys : List Str, v = .str a ∧ xs = [.ref p] ∧ (SqL K H p (ys.map V.str) ∨ SqT K H p (ys.map V.str)) ∧ (ys.map (·.length)).sum + ys.length * a.length ≤ 16777216 ∧ Q (.str (Txt.join a ys)) H
theorem kx_join : MtR X "str.join" (rJoin K) := by subst hK; exact mt_join
theorem kx_pi {tg l : Expr} {tl : TE} (hl : PE X l tl) : PI X tg l (iAny K tl) := by subst hK; exact pi_any hl
theorem kx_revL {e : Expr} {te : TE} {k : Nat} {p1 p2 p3 pos : Pos} (he : PE X e te) : PE X (.Subscript e (.Slice none none (some (.UnaryOp .USub (.Constant (.int 1) k p1) p2)) p3) pos) (tRevL K te) := by subst hK; exact pe_revL he
theorem kx_fld {e : Expr} {ta : TE} {f : Str} {pos : Pos} (ha : PE X e ta) (hb : attributeBase e f X.env (eval e X.env) = eval e X.env := by rfl) : PE X (.Attribute e f pos) (tFld K ta f) := by subst hK; exact pe_fld ha hb
theorem kx_set {o e : Expr} {ta tv : TE} {f : Str} {apos pos : Pos} (ha : PE X o ta) (hv : PE X e tv) (hs : swapsWith e (some (.Attribute o f apos)) pos.line X.env = pure false := by rfl) : PS X (.Assign [.Attribute o f apos] e pos) (sFld K ta tv f) := by subst hK; exact ps_fld ha hv hs
theorem kx_bm {T name : String} {id : String} {r : V → List V → Hp → VK → Prop} {o e : Expr} {es : List Expr} {to : TE} {t : TA} {apos cpos : Pos} (pa : PlainAttrs T) (slot : Slot T name id) (hty : typeOf (.builtin id) = pure (.type "method_descriptor")) (hm : MtR X id r) (ho : PE X o to) (ha : PA X (e :: es) t)
    (hbase : attributeBase o name X.env (eval o X.env) = eval o X.env := by rfl)
    (hfew : ((backTo cpos (starEach (e :: es) X.env)).all (fun x => !x.1) && (backToKw cpos (keywordEach [] X.env)).all (fun x => x.1.isSome)
      && decide ((e :: es).length + ([] : List Keyword).length + (if ([] : List Keyword).isEmpty then 0 else 1) < 30)) = true := by rfl)
    (hline : (apos.endLine == cpos.line) = true := by rfl) (hs : starEach (e :: es) X.env = (false, eval e X.env) :: starEach es X.env := by rfl) (hplain : (backTo cpos (starEach es X.env)).any (·.1) = false := by rfl) :
    PE X (.Call (.Attribute o name apos) (e :: es) [] cpos) (tBM K T r to t) := by subst hK; exact pe_bm pa slot hty hm ho ha hbase hfew hline hs hplain
theorem kx_tup {es : List Expr} {kk : Nat} {pos : Pos} {t : TGs} {n : Nat} (hc : X.calm = true) (h : PGs X es t) (hn : (assignEach es X.env).length = n := by rfl) (hst : (assignEach es X.env).findIdx? (·.1) = none := by rfl) : PG X (.Tuple es kk pos) (gTup K n t) := by subst hK; exact pg_tup hc h hn hst
theorem kx_set0 (P : Program) (w : World) (hP : X.prog = P) (hw : X.w = w) : CallR X (.type "set") (rSet0K P w) := by subst hP; subst hw; exact cr_set0K
theorem kx_sadd {o e : Expr} {es : List Expr} {to : TE} {t : TA} {apos cpos : Pos} (P : Program) (w : World) (hP : X.prog = P) (hw : X.w = w) (ho : PE X o to) (ha : PA X (e :: es) t)
    (h1 : attributeBase o "add" X.env (eval o X.env) = eval o X.env := by rfl)
    (h2 : ((backTo cpos (starEach (e :: es) X.env)).all (fun x => !x.1) && (backToKw cpos (keywordEach [] X.env)).all (fun x => x.1.isSome)
      && decide ((e :: es).length + ([] : List Keyword).length + (if ([] : List Keyword).isEmpty then 0 else 1) < 30)) = true := by rfl)
    (h3 : (apos.endLine == cpos.line) = true := by rfl) (h4 : starEach (e :: es) X.env = (false, eval e X.env) :: starEach es X.env := by rfl) (h5 : (backTo cpos (starEach es X.env)).any (·.1) = false := by rfl) :
    PE X (.Call (.Attribute o "add" apos) (e :: es) [] cpos) (tSAddK P w to t) := by subst hP; subst hw; exact pe_saddK ho ha h1 h2 h3 h4 h5
section
variable {k : Nat} {f C : Addr} {ps : List Str} {Pf : FS} {x : Str} {p pos : Pos} {e : Expr} {es : List Expr} {t : TA} {ta : TE}
theorem kx_def (D : Def X.prog X.w X.K X.mg X.base k f ps Pf) (hr : Room k X.A) (hg : Gl X x) (hm : X.mg x = some (.ref f)) (hk : PySem.W.keepIn X.K (.ref f) = true) (ha : PA X (e :: es) t)
    (hdb : (x == ("__debug__" : Str)) = false := by decide) (he : starEach (e :: es) X.env = (false, eval e X.env) :: starEach es X.env := by rfl) (hpl : (backTo pos (starEach es X.env)).any (·.1) = false := by rfl) :
    PE X (.Call (.Name x p) (e :: es) [] pos) (tCall (spOf K Pf) [] E0 t) := by subst hK; exact pe_def D hr hg hm hk ha hdb he hpl
theorem kx_defG (hg0 : X.A.guards = some []) (D : DefG X.prog X.w X.K X.mg X.base k f ps Pf) (hr : Room k X.A) (hg : Gl X x) (hm : X.mg x = some (.ref f)) (hk : PySem.W.keepIn X.K (.ref f) = true) (ha : PA X (e :: es) t)
    (hdb : (x == ("__debug__" : Str)) = false := by decide) (he : starEach (e :: es) X.env = (false, eval e X.env) :: starEach es X.env := by rfl) (hpl : (backTo pos (starEach es X.env)).any (·.1) = false := by rfl) :
    PE X (.Call (.Name x p) (e :: es) [] pos) (tCall (spOf K Pf) [] E0 t) := by subst hK; exact pe_defG hg0 D hr hg hm hk ha hdb he hpl
theorem kx_prop {nm : Str} (he : PE X e ta) (c : Cls X.K C) (hp : ∃ q, PropOf X.K C nm q f) (D : Def X.prog X.w X.K X.mg X.base k f ps Pf) (hr : Room (k + 1) X.A) (hab : attributeBase e nm X.env (eval e X.env) = eval e X.env) :
    PE X (.Attribute e nm pos) (tProp C (spOf K Pf) [] E0 ta) := by subst hK; exact pe_propD he c hp D hr hab
/-- C(e, ..), every parameter given -/
theorem kx_make (M : Mk X.K C f) (D : Def X.prog X.w X.K X.mg X.base k f ps Pf) (hr : Room (k + 1) X.A) (hg : Gl X x) (hm : X.mg x = some (.ref C)) (ha : PA X (e :: es) t)
    (hdb : (x == ("__debug__" : Str)) = false := by decide) (he : starEach (e :: es) X.env = (false, eval e X.env) :: starEach es X.env := by rfl) (hpl : (backTo pos (starEach es X.env)).any (·.1) = false := by rfl) :
    PE X (.Call (.Name x p) (e :: es) [] pos) (tMake C (spOf K Pf) [] E0 t) := by
  subst hK
  obtain ⟨fd, F, b, _⟩ := D
  exact pe_make M F hr hg hm b .nil pass0 ha hdb he hpl
end
end
end DL

set_option Elab.async false
set_option linter.all false
set_option maxRecDepth 100000
set_option maxHeartbeats 1000000
set_option autoImplicit false
namespace DL
open PySem PySem.Spec PyProof.Rows L2
theorem iteD {c : Prop} [Decidable c] {A B : Prop} (h1 : c → A) (h2 : ¬ c → B) : if decide c = true then A else B := by
  by_cases h : c
  · rw [decide_eq_true h, if_pos rfl]; exact h1 h
  · rw [decide_eq_false h, if_neg Bool.false_ne_true]; exact h2 h
theorem iteB {b : Bool} {A B : Prop} (h1 : b = true → A) (h2 : b = false → B) : if b = true then A else B := by
  cases b
  · exact h2 rfl
  · exact h1 rfl
/-! ### the walk over a reading: one step; a choice is left to whoever calls -/
local macro_rules | `(tactic| walk_at "s1") => `(tactic| with_reducible first
  | refine sw_seq ?_ | refine sw_next ?_ | refine sw_ret ?_ | refine sw_retN ?_ | refine sw_if ?_ | refine sw_asg ?_ | refine sw_asgG ?_ | refine sw_drop ?_ | refine sw_break ?_ | refine sw_cont ?_ | refine sw_par ?_ | refine sw_par3 ?_
  | refine tw_test ?_ | refine tw_B ?_ | refine tw_and ?_ | refine tw_or ?_ | refine tw_not ?_
  | refine ew_op ?_ | refine ew_un ?_ | refine ew_int ?_ | refine ew_non ?_ | refine ew_bl ?_ | refine ew_str ?_ | refine ew_ty ?_ | refine ew_ref ?_ | refine ew_cb ?_ | refine ew_if ?_ | refine ew_andV ?_ | refine ew_orV ?_ | refine ew_notV ?_ | refine ew_chain ?_ | refine ew_sl ?_ | refine pw_no ?_ | refine pw_part ?_
  | refine aw_nil ?_ | refine aw_cons ?_ | refine ew_bm ?_ | refine ew_bm0 ?_ | refine gw_setL ?_
  | refine gs_nil ?_ | refine gs_cons ?_ | refine gw_name ?_
  | refine ow_addI ?_ | refine ow_i0 ?_ | refine ow_b0 ?_ | refine ow_eqI ?_ | refine ow_neI ?_ | refine ow_isN ?_ | refine ow_notN ?_ | refine uw_neg ?_ | refine cw_int ?_ | refine cw_intB ?_ | refine cw_abs ?_ | refine cw_mx2 ?_ | refine cw_mn2 ?_)
local macro_rules | `(tactic| walk_at "s2") => `(tactic| first
  | (refine ew_var (by rfl) ?_)
  | (refine ⟨_, rfl, ?_⟩)
  | (refine ⟨_, _, rfl, ?_⟩)
  | (refine ⟨_, _, _, rfl, ?_⟩))
local macro_rules | `(tactic| walk_at "s") => `(tactic| repeat (first | walk_at "s1" | walk_at "s2"))
end DL

set_option Elab.async false
set_option linter.all false
set_option maxRecDepth 100000
set_option maxHeartbeats 1000000
set_option autoImplicit false
/-! Cells looked up and written by their addresses; == of data without booleans; what is shown. -/
namespace DL
open PySem PySem.Spec PyProof.Rows L2
theorem lt_sz {n : Nat} (h : n < 16777216) : n < sizeLine := h
theorem le_sz {n : Nat} (h : n ≤ 16777216) : n ≤ sizeLine := h
/-- at p stands c -/
def MAt (m : Mem) (p : Addr) (c : Cell) : Prop := ∃ i : Nat, m[i]? = some (p, c)
/-- at p stands c; written with c' it is m' -/
def MUp (m : Mem) (p : Addr) (c c' : Cell) (m' : Mem) : Prop := ∃ i : Nat, m[i]? = some (p, c) ∧ m' = m.set i (p, c')
section
variable {m m' l : Mem} {p : Addr} {c c' : Cell} {x : Addr × Cell}
theorem MAt.zero : MAt ((p, c) :: l) p c := ⟨0, rfl⟩
theorem MAt.cons (h : MAt l p c) : MAt (x :: l) p c := let ⟨i, h⟩ := h; ⟨i + 1, by simpa using h⟩
theorem MAt.last : MAt (l ++ [(p, c)]) p c := ⟨l.length, by simp⟩
theorem MAt.app {r : Mem} (h : MAt l p c) : MAt (l ++ r) p c := let ⟨i, h⟩ := h; ⟨i, by rw [List.getElem?_append_left (by have := List.getElem?_eq_some_iff.mp h; exact this.1)]; exact h⟩
theorem MUp.zero : MUp ((p, c) :: l) p c c' ((p, c') :: l) := ⟨0, rfl, rfl⟩
theorem MUp.cons (h : MUp l p c c' m') : MUp (x :: l) p c c' (x :: m') := let ⟨i, h, e⟩ := h; ⟨i + 1, by simpa using h, by rw [e]; rfl⟩
theorem MUp.last : MUp (l ++ [(p, c)]) p c c' (l ++ [(p, c')]) := ⟨l.length, by simp, by rw [List.set_append_right _ _ (Nat.le_refl _), Nat.sub_self]; rfl⟩
theorem MUp.app {r : Mem} (h : MUp l p c c' m') : MUp (l ++ r) p c c' (m' ++ r) := let ⟨i, h, e⟩ := h; by
  have hi : i < l.length := (List.getElem?_eq_some_iff.mp h).1
  exact ⟨i, by rw [List.getElem?_append_left hi]; exact h, by rw [e, List.set_append_left _ _ hi]⟩
end
section
variable {K : PySem.W.Frag} {δ : List (Option D)} {m : Mem} {Q : D → Mem → Prop} {te ta tb tc : TE} {p : Addr} {ds : List D}
theorem oi_L {i : Int} {d : D} (h : L2.atI ds i = some d) (q : Q d m) : OW K (rIxU K) (.lst ds) (.int i) m Q := ow_ixL h q
theorem oi_M {i : Int} {d : D} (hm : MAt m p (.lst ds)) (h : L2.atI ds i = some d) (q : Q d m) : OW K (rIxU K) (.adr p) (.int i) m Q := let ⟨_, hm⟩ := hm; ow_ixM hm h q
theorem cl_M (hm : MAt m p (.lst ds)) (q : Q (.int (ds.length : Nat)) m) : CW K (rLenU K) [.adr p] m Q := let ⟨_, hm⟩ := hm; cw_lenM hm q
theorem ci_M (hm : MAt m p (.lst ds)) (q : Q (.lst ds) m) : CW K (rListU K) [.adr p] m Q := let ⟨_, hm⟩ := hm; cw_listM hm q
theorem ma_app {d : D} {m' : Mem} (hm : MUp m p (.lst ds) (.lst (ds ++ [d])) m') (hl : ds.length < sizeLine) (q : Q .non m') : MW K rAppend (.adr p) [d] m Q := let ⟨_, hm, e⟩ := hm; mw_append hm hl (e ▸ q)
theorem ty_A (hm : MAt m p (.lst ds)) : ∀ (H : Hp) (v : V), MemOk K m H → Rd K (hide m H) v (.adr p) → tyV K "list" v H := let ⟨_, hm⟩ := hm; ty_M hm
theorem gs_L {d : D} {R : List (Option D) → Mem → Prop} (h : EW K ta δ m fun x m1 => EW K tb δ m1 fun y m2 => ∃ p ds n j m3, x = .adr p ∧ y = .int n ∧ MUp m2 p (.lst ds) (.lst (ds.set j d)) m3 ∧ ixN ds.length n = some j ∧ R δ m3) : GW K (gSub ta tb rSetL) d δ m R :=
  gw_setL (fun σ H s M QQ k => h σ H s M QQ fun x m1 v H1 q s1 M1 r1 => k x m1 v H1 (fun σ H s M QQ k => q σ H s M QQ fun y m2 v H2 ⟨p, ds, n, j, m3, ex, ey, ⟨i, hm, em⟩, hj, q⟩ s2 M2 r2 => k y m2 v H2 ⟨i, p, ds, n, j, ex, ey, hm, hj, em ▸ q⟩ s2 M2 r2) s1 M1 r1)
end
/-! ### == of data without booleans -/
def D.nb : Nat → D → Bool
  | _, .non => true
  | _, .int _ => true
  | _, .str x => PyData.strOk x
  | n + 1, .lst xs => xs.all (D.nb n)
  | n + 1, .tup xs => xs.all (D.nb n)
  | _, _ => false
theorem nb_fl : ∀ (n : Nat) (d : D), d.nb n = true → d.fl n = true := by
  intro n
  induction n with
  | zero => intro d h; cases d <;> simp_all [D.nb, D.fl]
  | succ n ih =>
    have all : ∀ ds : List D, ds.all (D.nb n) = true → ds.all (D.fl n) = true := by
      intro ds h
      rw [List.all_eq_true] at h ⊢
      exact fun d hd => ih d (h d hd)
    intro d h
    cases d with
    | lst xs => exact all xs h
    | tup xs => exact all xs h
    | _ => simp_all [D.nb, D.fl]
theorem eqv_nb : ∀ (n : Nat) (d e : D), d.nb n = true → e.nb n = true → (PyData.eqv d.py e.py = true ↔ d = e) := by
  intro n
  induction n with
  | zero =>
    intro d e h h'
    cases d <;> cases e <;> simp_all [D.nb, D.py, PyData.eqv]
  | succ n ih =>
    have all : ∀ ds es : List D, ds.all (D.nb n) = true → es.all (D.nb n) = true → (PyData.eqvAll (D.pyL ds) (D.pyL es) = true ↔ ds = es) := by
      intro ds
      induction ds with
      | nil => intro es _ _; cases es <;> simp [D.pyL, PyData.eqvAll]
      | cons d ds ihl =>
        intro es h h'
        cases es with
        | nil => simp [D.pyL, PyData.eqvAll]
        | cons e es =>
          rw [List.all_cons, Bool.and_eq_true] at h h'
          simp only [D.pyL, PyData.eqvAll, Bool.and_eq_true, List.cons.injEq, ih d e h.1 h'.1, ihl es h.2 h'.2]
    intro d e h h'
    cases d with
    | lst xs =>
      cases e with
      | lst ys => simpa only [D.py, PyData.eqv, D.lst.injEq] using all xs ys h h'
      | _ => simp_all [D.nb, D.py, PyData.eqv]
    | tup xs =>
      cases e with
      | tup ys => simpa only [D.py, PyData.eqv, D.tup.injEq] using all xs ys h h'
      | _ => simp_all [D.nb, D.py, PyData.eqv]
    | _ => cases e <;> simp_all [D.nb, D.py, PyData.eqv]
def rEqU (K : PySem.W.Frag) : R2 := fun x y H Q => rEqD K x y H Q ∨ rEq x y H Q
def rNeU (K : PySem.W.Frag) : R2 := fun x y H Q => rNeD K x y H Q ∨ rNe x y H Q
section
variable {X : Cx} (K : PySem.W.Frag) (hK : X.K = K)
include hK
theorem kx_eqU (hu : X.A.units + 64 < cLine) : OpR X (compareOp .Eq) (rEqU K) := by subst hK; exact OpR.or (op_eqD hu) op_eq
theorem kx_neU (hu : X.A.units + 64 < cLine) : OpR X (compareOp .NotEq) (rNeU K) := by subst hK; exact OpR.or (op_neD hu) op_ne
end
section
variable {K : PySem.W.Frag} {δ : List (Option D)} {m : Mem} {Q : D → Mem → Prop}
theorem oq_eqI {i j : Int} (q : Q (.bl (decide (i = j))) m) : OW K (rEqU K) (.int i) (.int j) m Q := ow_or1 (ow_eqI q)
theorem oq_neI {i j : Int} (q : Q (.bl (!decide (i = j))) m) : OW K (rNeU K) (.int i) (.int j) m Q := ow_or1 (ow_neI q)
theorem oq_eqS {i j : Str} (q : Q (.bl (decide (i = j))) m) : OW K (rEqU K) (.str i) (.str j) m Q := ow_or2 fun H v w M a b QQ k => by
  cases a
  cases b
  exact ⟨rfl, k _ m _ H q (Sub.refl _) M (by have : decide (V.str i = V.str j) = decide (i = j) := by simp
                                             first | (rw [this]; exact .bl _) | exact .bl _)⟩
theorem oq_neS {i j : Str} (q : Q (.bl (!decide (i = j))) m) : OW K (rNeU K) (.str i) (.str j) m Q := ow_or2 fun H v w M a b QQ k => by
  cases a
  cases b
  exact ⟨rfl, k _ m _ H q (Sub.refl _) M (by have : decide (V.str i = V.str j) = decide (i = j) := by simp
                                             first | (rw [this]; exact .bl _) | exact .bl _)⟩
theorem oq_eq (n : Nat) {x y : D} (hx : x.nb n = true) (hy : y.nb n = true) (q : ∀ b : Bool, (b = true ↔ x = y) → Q (.bl b) m) (hn : n ≤ 64 := by decide) : OW K (rEqU K) x y m Q :=
  ow_or1 (ow_eq hn (nb_fl n x hx) (nb_fl n y hy) (q _ (eqv_nb n x y hx hy)))
end
/-! ### what is shown -/
def rRepr (K : PySem.W.Frag) : List V → Hp → VK → Prop := fun xs H Q => ∃ a d, xs = [V.ref a] ∧ Dp K H (.ref a) d ∧ d.showable = true ∧ d.hasDict = false ∧ d.depth ≤ 64 ∧ d.shown.length ≤ sizeLine ∧ Q (.str d.shown) H
theorem cr_repr {X : Cx} (hg : X.A.guards = some []) (hu : X.A.units + 66 < cLine) : CallR X (.builtin "repr") (rRepr X.K) := by
  intro pins s σ H xs us Q I rv h
  obtain ⟨a, d, rfl, hd, h1, h2, h3, h4, q⟩ := h
  cases rv with
  | cons r0 r1 =>
    cases r1
    obtain rfl := show _ = Value.ref a from r0
    obtain ⟨as, r⟩ := Dp.reads I d _ _ hd rfl
    exact repr_of_reads' r h1 (fun z => by rw [h2] at z; cases z) hg (by omega) (fun _ _ e => e) (fun h' u tk k => ⟨.str d.shown, H, I.kept k, ⟨_, rfl⟩, q⟩) h4
theorem kx_repr {X : Cx} (K : PySem.W.Frag) (hK : X.K = K) (hg : X.A.guards = some []) (hu : X.A.units + 66 < cLine) : CallR X (.builtin "repr") (rRepr K) := by subst hK; exact cr_repr hg hu
/-- in the memory m the data x, its cells looked through, are d -/
def Res (K : PySem.W.Frag) (m : Mem) (x : D) (d : PyData) : Prop := ∀ (H : Hp) (v : V), MemOk K m H → Rd K (hide m H) v x → Dp K H v d
def ResL (K : PySem.W.Frag) (m : Mem) (x : List D) (d : List PyData) : Prop := ∀ (H : Hp) (v : List V), MemOk K m H → RdL K (hide m H) v x → DpAll K H v d
section
variable {K : PySem.W.Frag} {δ : List (Option D)} {m : Mem} {Q : D → Mem → Prop}
theorem Res.fl {n : Nat} {x : D} (h : x.fl n = true) : Res K m x x.py := fun H v M r => Rd.dp n x v h r.top
theorem ResL.nil : ResL K m [] [] := fun H v M r => by cases r; exact .nil
theorem ResL.cons {x : D} {d : PyData} {xs : List D} {ds : List PyData} (h : Res K m x d) (h' : ResL K m xs ds) : ResL K m (x :: xs) (d :: ds) := fun H v M r => by
  cases r with
  | cons a b => exact .cons (h H _ M a) (h' H _ M b)
theorem Res.lst {xs : List D} {ds : List PyData} (h : ResL K m xs ds) : Res K m (.lst xs) (.list ds) := fun H v M r => by
  obtain ⟨p, vs, rfl, e, r⟩ := lst_at r
  exact .lst (SqL.of e) (h H vs M r)
theorem Res.tup {xs : List D} {ds : List PyData} (h : ResL K m xs ds) : Res K m (.tup xs) (.tuple ds) := fun H v M r => by
  obtain ⟨p, vs, rfl, e, r⟩ := tup_at r
  exact .tup e (h H vs M r)
theorem Res.adr {p : Addr} {xs : List D} {ds : List PyData} (hm : MAt m p (.lst xs)) (h : ResL K m xs ds) : Res K m (.adr p) (.list ds) := fun H v M r => by
  cases r
  obtain ⟨i, hm⟩ := hm
  obtain ⟨vs, e, r⟩ := cell_at M hm
  exact .lst (SqL.of e) (h H vs M r)
/-- what is shown -/
theorem cw_repr {x : D} {d : PyData} (h : Res K m x d) (hx : (∃ xs, x = .lst xs) ∨ (∃ xs, x = .tup xs) ∨ ∃ p, x = .adr p) (h1 : d.showable = true) (h2 : d.hasDict = false) (h3 : d.depth ≤ 64) (h4 : d.shown.length ≤ sizeLine) (q : Q (.str d.shown) m) : CW K (rRepr K) [x] m Q := fun H vs M a QQ k => by
  cases a with
  | cons a b =>
    cases b
    have g := h H _ M a
    have ha : ∃ z, ‹V› = V.ref z := by
      rcases hx with ⟨_, rfl⟩ | ⟨_, rfl⟩ | ⟨_, rfl⟩
      · obtain ⟨p, _, rfl, _⟩ := lst_at a; exact ⟨p, rfl⟩
      · obtain ⟨p, _, rfl, _⟩ := tup_at a; exact ⟨p, rfl⟩
      · cases a; exact ⟨_, rfl⟩
    obtain ⟨z, e⟩ := ha
    subst e
    exact ⟨z, d, rfl, g, h1, h2, h3, h4, k _ m _ H q (Sub.refl _) M (.str _)⟩
end
end DL

set_option Elab.async false
set_option linter.all false
set_option maxRecDepth 100000
set_option maxHeartbeats 1000000
set_option autoImplicit false
/-! Comprehensions with two loops, and such as map. -/
namespace DL
open PySem PySem.Spec PyProof.Rows L2
section
variable {K : PySem.W.Frag} {δ : List (Option D)} {m : Mem} {Q : D → Mem → Prop} {te ta tb tc : TE} {P : Ps} {t u : TS} {tt tt1 : TT} {g g1 : TG} {wi wi1 : TI}
theorem tw_yes {R : Bool → Mem → Prop} (q : R true m) : TW K tYes δ m R := fun σ H s M QQ k => k true m H q (Sub.refl _) M
theorem ew_lcM {vs : List Nat} (tm : Tame g vs) (h : IW K wi δ m fun ds m1 => ∃ Iv : Nat → List D → Mem → Prop, Iv 0 [] m1 ∧
      (∀ (j : Nat) (d : D) (acc : List D) (m' : Mem) (z : Addr), ds[j]? = some d → Iv j acc m' → acc.length < sizeLine ∧ GW K g d (wipeD δ vs) (m' ++ [(z, .lst acc)]) fun δ2 m2 => TW K tt δ2 m2 fun b m3 =>
        if b = true then EW K te δ2 m3 fun y m4 => ∃ m5, m4 = m5 ++ [(z, .lst acc)] ∧ Iv (j + 1) (acc ++ [y]) m5 else ∃ m5, m3 = m5 ++ [(z, .lst acc)] ∧ Iv (j + 1) acc m5) ∧
      (∀ (acc : List D) (m' : Mem) (z : Addr), Iv ds.length acc m' → Q (.adr z) (m' ++ [(z, .lst acc)]))) : EW K (tLc wi g tt te vs) δ m Q := fun σ H s M QQ k =>
  h σ H s M _ fun J H1 m1 ds ⟨Iv, h0, hs, hd⟩ s1 M1 fe => by
    intro z hz
    have base : Sub (hide m1 H1) (hide (m1 ++ [(z, .lst [])]) (upd H1 z (.lst []))) := by
      rw [hide_cell hz]
      exact Sub.refl _
    refine ⟨fun i n H' => n = ds.length - i ∧ i ≤ ds.length ∧ ∃ acc m', Iv i acc m' ∧ Sub (hide m1 H1) (hide (m' ++ [(z, .lst acc)]) H') ∧ MemOk K (m' ++ [(z, .lst acc)]) H', ⟨ds.length, rfl, Nat.zero_le _, [], m1, h0, base, M1.cell (c := .lst []) hz ⟨[], upd_same, .nil⟩⟩, ?_⟩
    rintro i n H' ⟨rfl, hi, acc, m', hI, s2, M2⟩
    by_cases hlt : i < ds.length
    · refine .inr ⟨fe.go i _ H' s2 M2 hlt, fun H3 => ∃ acc m3, Iv (i + 1) acc m3 ∧ Sub (hide m1 H1) (hide (m3 ++ [(z, .lst acc)]) H3) ∧ MemOk K (m3 ++ [(z, .lst acc)]) H3, fun H3 q => ⟨ds.length - (i + 1), by omega, rfl, hlt, q⟩, fun x H3 y => ?_⟩
      have hdi : ds[i]? = some ds[i] := List.getElem?_eq_getElem hlt
      obtain ⟨s3, M3, r3⟩ := fe.yld i _ H' x H3 _ s2 M2 hdi y
      obtain ⟨hl, step⟩ := hs i _ acc m' z hdi hI
      have sb : Sub (hide m H) (hide (m' ++ [(z, .lst acc)]) H3) := s1.trans (s2.trans s3)
      refine tm x σ (wipe σ vs) H3 _ (wipe_idem σ vs) ?_
      refine step (wipe σ vs) H3 x ((s.mono sb).wipe vs) M3 r3 _ fun δ4 m4 σ4 H4 q4 s4 S4 M4 => ?_
      refine q4 σ4 H4 S4 M4 _ fun b m5 H5 q5 s5 M5 => ?_
      cases b with
      | true =>
        have q5' : EW K te δ4 m5 fun y m4 => ∃ m5, m4 = m5 ++ [(z, .lst acc)] ∧ Iv (i + 1) (acc ++ [y]) m5 := q5
        refine q5' σ4 H5 (S4.mono s5) M5 _ fun yd m6 yv H6 q6 s6 M6 r6 => ?_
        obtain ⟨m7, e7, hI7⟩ := q6
        subst e7
        have hm : (m7 ++ [(z, Cell.lst acc)])[m7.length]? = some (z, Cell.lst acc) := by simp
        obtain ⟨xs, ex, rx⟩ := cell_at M6 hm
        have es : (m7 ++ [(z, Cell.lst acc)]).set m7.length (z, Cell.lst (acc ++ [yd])) = m7 ++ [(z, Cell.lst (acc ++ [yd]))] := by
          rw [List.set_append_right _ _ (Nat.le_refl _), Nat.sub_self]
          rfl
        have eh : hide (m7 ++ [(z, Cell.lst (acc ++ [yd]))]) (upd H6 z (.lst (xs ++ [yv]))) = hide (m7 ++ [(z, Cell.lst acc)]) H6 := by
          rw [← es]
          exact hide_set hm
        refine ⟨xs, ex, by rw [rx.length]; exact hl, acc ++ [yd], m7, hI7, ?_, ?_⟩
        · rw [eh]
          exact s2.trans (s3.trans (s4.trans (s5.trans s6)))
        · rw [← es]
          exact M6.set hm ⟨xs ++ [yv], upd_same, rx.snoc r6⟩
      | false =>
        have q5' : ∃ m6, m5 = m6 ++ [(z, .lst acc)] ∧ Iv (i + 1) acc m6 := q5
        obtain ⟨m7, e7, hI7⟩ := q5'
        subst e7
        exact ⟨acc, m7, hI7, s2.trans (s3.trans (s4.trans s5)), M5⟩
    · have e : i = ds.length := by omega
      subst e
      refine .inl ⟨fe.stop _ H' s2 M2, ?_⟩
      exact k (.adr z) _ (.ref z) H' (hd acc m' z hI) (s1.trans s2) M2 (.adr z)
/-- a comprehension that maps a list; nothing else changes -/
theorem ew_lcF {vs : List Nat} (tm : Tame g vs) (h : IW K wi δ m fun ds m1 => ∃ (α : Type) (xs : List α) (f F : α → D), ds = xs.map f ∧ xs.length ≤ sizeLine ∧
      (∀ (x : α) (acc : List D) (z : Addr), x ∈ xs → GW K g (f x) (wipeD δ vs) (m1 ++ [(z, .lst acc)]) fun δ2 m2 => TW K tt δ2 m2 fun b m3 => b = true ∧ EW K te δ2 m3 fun y m4 => y = F x ∧ m4 = m1 ++ [(z, .lst acc)]) ∧
      Q (.lst (xs.map F)) m1) : EW K (tLc wi g tt te vs) δ m Q := by
  refine ew_lc tm fun σ H s M QQ k => h σ H s M QQ fun J H1 m1 ds ⟨α, xs, f, F, ed, hl, st, q⟩ => k J H1 m1 ds ⟨fun j acc m' => acc = (xs.take j).map F ∧ m' = m1, ⟨by simp, rfl⟩, ?_, ?_⟩
  · rintro j d acc m' z hj ⟨rfl, rfl⟩
    subst ed
    rw [List.getElem?_map] at hj
    cases c : xs[j]? with
    | none => rw [c] at hj; cases hj
    | some x =>
      rw [c] at hj
      cases hj
      have hlt := (List.getElem?_eq_some_iff.mp c).1
      refine ⟨by rw [List.length_map, List.length_take]; omega, ?_⟩
      refine fun σ H v s M r QQ k => st x _ z (List.mem_of_getElem? c) σ H v s M r QQ fun δ' m' σ' H' q => k δ' m' σ' H' fun σ H s M QQ k => q σ H s M QQ fun b m2 H2 q => k b m2 H2 ?_
      obtain ⟨rfl, q⟩ := q
      rw [if_pos rfl]
      refine fun σ H s M QQ k => q σ H s M QQ fun y m4 v4 H4 q => k y m4 v4 H4 ?_
      obtain ⟨rfl, rfl⟩ := q
      refine ⟨_, rfl, ?_, rfl⟩
      rw [List.take_add_one, c, List.map_append]
      rfl
  · rintro acc m' ⟨rfl, rfl⟩
    subst ed
    rw [List.length_map, List.take_length]
    exact q
/-- a comprehension that picks some of a list and maps them; nothing else changes -/
theorem ew_lcP {vs : List Nat} (tm : Tame g vs) (h : IW K wi δ m fun ds m1 => ∃ (α : Type) (xs : List α) (f F : α → D) (p : α → Bool), ds = xs.map f ∧ xs.length ≤ sizeLine ∧
      (∀ (x : α) (acc : List D) (z : Addr), x ∈ xs → GW K g (f x) (wipeD δ vs) (m1 ++ [(z, .lst acc)]) fun δ2 m2 => TW K tt δ2 m2 fun b m3 => b = p x ∧ m3 = m1 ++ [(z, .lst acc)] ∧ (b = true → EW K te δ2 m3 fun y m4 => y = F x ∧ m4 = m1 ++ [(z, .lst acc)])) ∧
      Q (.lst ((xs.filter p).map F)) m1) : EW K (tLc wi g tt te vs) δ m Q := by
  refine ew_lc tm fun σ H s M QQ k => h σ H s M QQ fun J H1 m1 ds ⟨α, xs, f, F, p, ed, hl, st, q⟩ => k J H1 m1 ds ⟨fun j acc m' => acc = ((xs.take j).filter p).map F ∧ m' = m1, ⟨by simp, rfl⟩, ?_, ?_⟩
  · rintro j d acc m' z hj ⟨rfl, rfl⟩
    subst ed
    rw [List.getElem?_map] at hj
    cases c : xs[j]? with
    | none => rw [c] at hj; cases hj
    | some x =>
      rw [c] at hj
      cases hj
      have hlt := (List.getElem?_eq_some_iff.mp c).1
      have hle : ((xs.take j).filter p).length ≤ j := Nat.le_trans (List.length_filter_le _ _) (by rw [List.length_take]; omega)
      refine ⟨by rw [List.length_map]; omega, ?_⟩
      refine fun σ H v s M r QQ k => st x _ z (List.mem_of_getElem? c) σ H v s M r QQ fun δ' m' σ' H' q => k δ' m' σ' H' fun σ H s M QQ k => q σ H s M QQ fun b m2 H2 q => k b m2 H2 ?_
      obtain ⟨hb, rfl, q⟩ := q
      cases b with
      | true =>
        rw [if_pos rfl]
        refine fun σ H s M QQ k => q rfl σ H s M QQ fun y m4 v4 H4 q => k y m4 v4 H4 ?_
        obtain ⟨rfl, rfl⟩ := q
        refine ⟨_, rfl, ?_, rfl⟩
        rw [List.take_add_one, c, List.filter_append, List.map_append]
        simp [← hb]
      | false =>
        rw [if_neg Bool.false_ne_true]
        refine ⟨_, rfl, ?_, rfl⟩
        rw [List.take_add_one, c, List.filter_append, List.map_append]
        simp [← hb]
  · rintro acc m' ⟨rfl, rfl⟩
    subst ed
    rw [List.length_map, List.take_length]
    exact q
theorem intsD0 (n : Nat) : intsD 0 n = (List.range n).map fun i => D.int (i : Nat) := by simp [intsD]
end
end DL

set_option Elab.async false
set_option linter.all false
set_option maxRecDepth 100000
set_option maxHeartbeats 1000000
set_option autoImplicit false
/-! Calls with keywords. -/
namespace DL
open PySem PySem.Spec PyProof.Rows L2
theorem fdAt_inj {K : PySem.W.Frag} {f : Addr} {fd fd' : FuncData} (h : FdAt K f fd) (h' : FdAt K f fd') : fd = fd' := by
  obtain ⟨_, _, _, h⟩ := h
  obtain ⟨_, _, _, h'⟩ := h'
  rw [h] at h'
  injection h' with h'
  injection h' with _ _ h' _
  injection h'
/-- a promise at so many arguments -/
abbrev FSn (n : Nat) (F : FS) : FS := fun ds m Q => ds.length = n ∧ F ds m Q
/-- a constant of the top -/
theorem kx_con {X : Cx} {x : Str} {v : V} {pos : Pos} (h : ∃ u, X.mg x = some u ∧ RelV v u) (hg : Gl X x) (hd : (x == ("__debug__" : Str)) = false := by decide) : PE X (.Name x pos) (tC v) := let ⟨_, h, r⟩ := h; pe_glob hg h r hd
theorem sw_ifJ {K : PySem.W.Frag} {tt : TT} {t u : TS} {δ : List (Option D)} {m : Mem} {P : Ps} (J : List (Option D) → Mem → Prop) (h : TW K tt δ m fun b m1 => if b = true then SW K t δ m1 { P with nx := J } else SW K u δ m1 { P with nx := J }) (n : ∀ δ' m', J δ' m' → P.nx δ' m') : SW K (tIfS tt t u) δ m P :=
  sw_mid (sw_if h) n (fun _ _ q => q) (fun _ _ q => q) (fun _ _ q => q)
section
variable {K : PySem.W.Frag} {δ : List (Option D)} {m : Mem} {P : Ps} {ta : TA} {te : TE} {g : TG} {t : TS} {wi : TI}
theorem sw_forN (h : AW K ta δ m fun xs m1 => ∃ k : Nat, xs = [.int (k : Nat)] ∧ k < 2 ^ 62 ∧ ∃ Iv : Nat → List (Option D) → Mem → Prop, Iv 0 δ m1 ∧
      (∀ (j : Nat) (δ' : List (Option D)) (m' : Mem), j < k → Iv j δ' m' → GW K g (.int (j : Nat)) δ' m' fun δ2 m2 => SW K t δ2 m2 { nx := Iv (j + 1), ct := Iv (j + 1), bk := P.nx, rt := P.rt }) ∧
      ∀ (δ' : List (Option D)) (m' : Mem), Iv k δ' m' → P.nx δ' m') : SW K (tFor (iRng1 ta) g t) δ m P :=
  sw_for (iw_rng1 fun σ H s M QQ kk => h σ H s M QQ fun xs m1 vs H1 ⟨k, e, hk, Iv, h0, hs, hd⟩ => kk xs m1 vs H1 ⟨(k : Int), e, by omega, by omega, Iv, h0, fun j d δ' m' hj hI => by
    obtain ⟨l, rfl⟩ := intsD_get hj
    have := hs j δ' m' (by omega) hI
    rwa [Int.zero_add], fun δ' m' hI => hd δ' m' (by rw [intsD_len] at hI; exact hI)⟩)
theorem sw_forX (h : IW K wi δ m fun ds m1 => ∃ (α : Type) (xs : List α) (f : α → D), ds = xs.map f ∧ ∃ Iv : Nat → List (Option D) → Mem → Prop, Iv 0 δ m1 ∧
      (∀ (j : Nat) (x : α) (δ' : List (Option D)) (m' : Mem), xs[j]? = some x → Iv j δ' m' → GW K g (f x) δ' m' fun δ2 m2 => SW K t δ2 m2 { nx := Iv (j + 1), ct := Iv (j + 1), bk := P.nx, rt := P.rt }) ∧
      ∀ (δ' : List (Option D)) (m' : Mem), Iv xs.length δ' m' → P.nx δ' m') : SW K (tFor wi g t) δ m P :=
  sw_for fun σ H s M QQ kk => h σ H s M QQ fun J H1 m1 ds ⟨α, xs, f, ed, Iv, h0, hs, hd⟩ => kk J H1 m1 ds ⟨Iv, h0, fun j d δ' m' hj hI => by
    subst ed
    rw [List.getElem?_map] at hj
    cases c : xs[j]? with
    | none => rw [c] at hj; cases hj
    | some x =>
      rw [c] at hj
      cases hj
      exact hs j x δ' m' c hI, fun δ' m' hI => hd δ' m' (by rw [ed, List.length_map] at hI; exact hI)⟩
end
section
variable {K : PySem.W.Frag} {δ : List (Option D)} {m : Mem} {Q : D → Mem → Prop} {ta : TA} {te : TE} {tt : TT} {g : TG} {wi : TI}
theorem iw_rngN {R : List D → Mem → Prop} (h : AW K ta δ m fun xs m1 => ∃ k : Nat, xs = [.int (k : Nat)] ∧ k < 2 ^ 62 ∧ R ((List.range k).map fun i => D.int (i : Nat)) m1) : IW K (iRng1 ta) δ m R :=
  iw_rng1 fun σ H s M QQ kk => h σ H s M QQ fun xs m1 vs H1 ⟨k, e, hk, q⟩ => kk xs m1 vs H1 ⟨(k : Int), e, by omega, by omega, by rw [Int.toNat_natCast, intsD0]; exact q⟩
/-- a comprehension whose items are drawn: R what each of them keeps, Mv the cells behind so many -/
theorem ew_lcD {α β : Type} {vs : List Nat} (f : β → D) (R : Nat → β → Prop) (Mv : Nat → Mem → Prop) (tm : Tame g vs) (h : IW K wi δ m fun ds m1 => ∃ (xs : List α) (e : α → D), ds = xs.map e ∧ xs.length ≤ sizeLine ∧ Mv 0 m1 ∧
      (∀ (j : Nat) (x : α) (acc : List D) (m' : Mem) (z : Addr), xs[j]? = some x → Mv j m' → GW K g (e x) (wipeD δ vs) (m' ++ [(z, .lst acc)]) fun δ2 m2 => TW K tt δ2 m2 fun b m3 => b = true ∧ EW K te δ2 m3 fun y m4 => ∃ t m5, y = f t ∧ R j t ∧ m4 = m5 ++ [(z, .lst acc)] ∧ Mv (j + 1) m5) ∧
      ∀ (ts : List β) (m' : Mem), ts.length = xs.length → (∀ (j : Nat) (t : β), ts[j]? = some t → R j t) → Mv xs.length m' → Q (.lst (ts.map f)) m') : EW K (tLc wi g tt te vs) δ m Q := by
  refine ew_lc tm fun σ H s M QQ k => h σ H s M QQ fun J H1 m1 ds ⟨xs, e, ed, hl, h0, st, q⟩ => k J H1 m1 ds ⟨fun j acc m' => ∃ ts : List β, acc = ts.map f ∧ ts.length = j ∧ (∀ (i : Nat) (t : β), ts[i]? = some t → R i t) ∧ Mv j m', ⟨[], rfl, rfl, fun i t h => by simp at h, h0⟩, ?_, ?_⟩
  · rintro j d acc m' z hj ⟨ts, rfl, hlen, hR, hM⟩
    subst ed
    rw [List.getElem?_map] at hj
    cases c : xs[j]? with
    | none => rw [c] at hj; cases hj
    | some x =>
      rw [c] at hj
      cases hj
      have hlt := (List.getElem?_eq_some_iff.mp c).1
      refine ⟨by rw [List.length_map]; omega, ?_⟩
      refine fun σ H v s M r QQ k => st j x _ m' z c hM σ H v s M r QQ fun δ' m' σ' H' q => k δ' m' σ' H' fun σ H s M QQ k => q σ H s M QQ fun b m2 H2 q => k b m2 H2 ?_
      obtain ⟨rfl, q⟩ := q
      rw [if_pos rfl]
      refine fun σ H s M QQ k => q σ H s M QQ fun y m4 v4 H4 q => k y m4 v4 H4 ?_
      obtain ⟨t, m5, rfl, hr, rfl, hM'⟩ := q
      refine ⟨m5, rfl, ts ++ [t], by rw [List.map_append]; rfl, by rw [List.length_append, hlen]; rfl, fun i t' ht => ?_, hM'⟩
      by_cases hi : i < ts.length
      · rw [List.getElem?_append_left hi] at ht
        exact hR i t' ht
      · rw [List.getElem?_append_right (by omega)] at ht
        have e0 : i - ts.length = 0 := by
          have := (List.getElem?_eq_some_iff.mp ht).1
          simp at this
          omega
        rw [e0] at ht
        simp at ht
        subst ht
        rw [show i = j by omega]
        exact hr
  · rintro acc m' ⟨ts, rfl, hlen, hR, hM⟩
    rw [ed, List.length_map] at hlen hM
    exact q ts m' hlen hR hM
end
theorem range_get {k j x : Nat} (h : (List.range k)[j]? = some x) : j < k ∧ j = x := by
  have hj := (List.getElem?_eq_some_iff.mp h).1
  rw [List.length_range] at hj
  rw [List.getElem?_range hj] at h
  cases h
  exact ⟨hj, rfl⟩
/-- keywords alone, in the parameters' order -/
def KB0 (K : PySem.W.Frag) (f : Addr) (ps : List Str) : Prop := ∀ fd, FdAt K f fd → ∀ ws : List Value, ws.length = ps.length → bindArgs fd ⟨[], ps.zip ws⟩ = pure (ps.zip ws)
theorem KB0.kbn {K : PySem.W.Frag} {f : Addr} {ps : List Str} {fd : FuncData} (h : KB0 K f ps) (e : FdAt K f fd) : KBn K fd ps 0 ps (fun _ ws => ws) (fun _ zs => zs) :=
  ⟨fun s us ws _ l1 l2 => by
    have : us = [] := List.length_eq_zero_iff.mp l1
    subst this
    exact BindsTo.of_eq (h fd e ws l2), fun _ r => r⟩
def tKw0 (n : Nat) (sp : Sp) (E : XK) (tk : TA) : TE := fun σ H Q => tk σ H fun zs H2 => zs.length = n ∧ sp zs H2 Q E
section
variable {X : Cx} {k : Nat} {f : Addr} {ps : List Str} {Pf : FS} {x : Str} {p pos : Pos} {kws : List Keyword} {tk : TA}
end
section
variable {K : PySem.W.Frag} {δ : List (Option D)} {m : Mem} {Q : D → Mem → Prop}
theorem ew_kw0 {Pf : FS} {E : XK} {t : TA} {n : Nat} (h : AW K t δ m fun ds m1 => ds.length = n ∧ Pf ds m1 Q) : EW K (tKw0 n (spOf K Pf) E t) δ m Q := fun σ H s M QQ k =>
  h σ H s M _ fun ds m1 vs H1 ⟨l, q⟩ s1 M1 r1 => ⟨by rw [r1.length, l], ds, m1, Q, r1, M1, q, fun d m2 v H2 q2 s2 M2 r2 => k d m2 v H2 q2 (s1.trans s2) M2 r2⟩
end
end DL

set_option Elab.async false
set_option linter.all false
set_option maxRecDepth 100000
set_option maxHeartbeats 1000000
set_option autoImplicit false
/-! Tables: the states that come about, in the sequence in which they are reached. -/
namespace DL
abbrev Step := Nat × Option Int
abbrev Tab := List (List Step)
def ext (o : List Nat) (gs : List Nat) : List Nat := gs.foldl (fun o g => if g ∈ o then o else o ++ [g]) o
def goals (T : Tab) (s : Nat) : List Nat := (T.getD s []).map (·.1)
def ordT (T : Tab) : Nat → List Nat
  | 0 => [0]
  | t + 1 => if t < (ordT T t).length then ext (ordT T t) (goals T ((ordT T t).getD t 0)) else ordT T t
/-- a table: at least one state, steps lead to states -/
structure TabOk (T : Tab) : Prop where
  pos : 0 < T.length
  lt : ∀ r ∈ T, ∀ s ∈ r, s.1 < T.length
theorem TabOk.goals {T : Tab} (h : TabOk T) {s g : Nat} (hg : g ∈ goals T s) : g < T.length := by
  unfold DL.goals at hg
  obtain ⟨x, hx, rfl⟩ := List.mem_map.mp hg
  by_cases c : s < T.length
  · rw [List.getD_eq_getElem?_getD, List.getElem?_eq_getElem c] at hx
    exact h.lt _ (List.getElem_mem c) x hx
  · rw [List.getD_eq_getElem?_getD, List.getElem?_eq_none (by omega)] at hx
    cases hx
def fin (T : Tab) : List Nat := ordT T T.length
end DL

set_option Elab.async false
set_option linter.all false
set_option maxRecDepth 100000
set_option maxHeartbeats 1000000
set_option autoImplicit false
/-! Cells dropped; numbers and texts looked for in lists, dicts, sets. -/
namespace DL
open PySem PySem.Spec PyProof.Rows L2
def rel (sc1 sc0 : Scope) : Scope := PySem.relabel sc1 { scope := sc0, locals := 0, globals := 0, cells := [], qual := "", func := none, code := .none, frame := none, builtins := 0 }
theorem h66 {k : Nat} {A : Around} (hr : Room k A) : A.units + 66 < cLine := by have := hr.un; omega
abbrev natD (x : Nat) : D := .int (x : Nat)
section
variable {K : PySem.W.Frag} {δ : List (Option D)} {m : Mem} {Q : D → Mem → Prop} {te ta tb tc : TE} {p : Addr} {ds : List D}
theorem hide_perm {m m' : Mem} {H : Hp} (h : m.Perm m') : hide m H = hide m' H := by
  funext a
  unfold hide
  have : a ∈ m.map Prod.fst ↔ a ∈ m'.map Prod.fst := (h.map Prod.fst).mem_iff
  by_cases c : a ∈ m.map Prod.fst
  · rw [if_pos c, if_pos (this.mp c)]
  · rw [if_neg c, if_neg fun z => c (this.mpr z)]
theorem MemOk.perm {m m' : Mem} {H : Hp} (h : m.Perm m') (M : MemOk K m H) : MemOk K m' H :=
  ⟨(h.map Prod.fst).nodup_iff.mp M.nd, fun p c hc => by
    have := M.at_ p c (h.mem_iff.mpr hc)
    rwa [hide_perm h] at this⟩
/-- the cells told in another sequence -/
theorem ew_perm (h : EW K te δ m fun d m1 => ∃ m2, m1.Perm m2 ∧ Q d m2) : EW K te δ m Q := fun σ H s M QQ k =>
  h σ H s M _ fun d m1 v H1 ⟨m2, e, q⟩ s1 M1 r1 => k d m2 v H1 q (by rw [← hide_perm e]; exact s1) (M1.perm e) (by rw [← hide_perm e]; exact r1)
theorem perm_end {l : Mem} {x y : Addr × Cell} : (l ++ [x] ++ [y]).Perm (l ++ [y] ++ [x]) := by
  rw [List.append_assoc, List.append_assoc]
  exact List.Perm.append_left l (List.Perm.swap y x [])
theorem putD_new {kvs : List (Key × D)} {k : Key} {d : D} (h : ∀ p ∈ kvs, p.1 ≠ k) : putD kvs k d = kvs ++ [(k, d)] := by
  unfold putD
  have : (kvs.any fun kv => decide (kv.1 = k)) = false := by
    rw [List.any_eq_false]
    intro x hx
    simpa using h x hx
  rw [this, if_neg Bool.false_ne_true]
theorem nd_map {α β : Type} {f : α → β} {l : List α} (inj : ∀ a b, f a = f b → a = b) (h : l.Nodup) : (l.map f).Nodup := List.pairwise_map.mpr (h.imp fun ne e => ne (inj _ _ e))
theorem ew_fldI {f : Str} (h : EW K ta δ m fun x m1 => ∃ (C : Addr) (fs : List (Str × D)), x = .ins C fs ∧ ∃ d : D, Cls K C ∧ NoAttr K C f ∧ fs.lookup f = some d ∧ Q d m1) : EW K (tFld K ta f) δ m Q :=
  ew_fld fun σ H s M QQ k => h σ H s M QQ fun x m1 v H1 ⟨C, fs, e, d, r⟩ => k x m1 v H1 ⟨C, fs, d, e, r⟩
theorem sw_fldA {ta tv : TE} {f : Str} {P : Ps} (h : EW K tv δ m fun d m1 => EW K ta δ m1 fun x m2 => ∃ (p C : Addr) (fs : List (Str × D)) (m3 : Mem), x = .adr p ∧ MUp m2 p (.ins C fs) (.ins C (putFD f d fs)) m3 ∧ Cls K C ∧ NoAttr K C f ∧ fs.length < 1000 ∧ P.nx δ m3) : SW K (sFld K ta tv f) δ m P :=
  sw_fld fun σ H s M QQ k => h σ H s M QQ fun d m1 v H1 q => k d m1 v H1 fun σ H s M QQ k => q σ H s M QQ fun x m2 v2 H2 ⟨p, C, fs, m3, e, ⟨i, hm, em⟩, c, n, l, q⟩ => k x m2 v2 H2 ⟨i, p, C, fs, e, hm, c, n, l, em ▸ q⟩
theorem ew_saddA {Pg : Program} {w : World} {t : TA} (h : EW K ta δ m fun x m1 => (∃ (p : Addr) (S : Key → Bool) (n : Nat), x = .adr p ∧ MAt m1 p (setC Pg w p S n)) ∧ AW K t δ m1 fun xs m2 => ∃ (p : Addr) (S : Key → Bool) (n : Nat) (k : Key) (m3 : Mem), x = .adr p ∧ xs = [kD k] ∧ MUp m2 p (setC Pg w p S n) (setC Pg w p (fun j => S j || decide (j = k)) (if S k = true then n else n + 1)) m3 ∧ n + 1 < scanBound ∧ Q .non m3) : EW K (tSAddK Pg w ta t) δ m Q :=
  ew_saddK fun σ H s M QQ k => h σ H s M QQ fun x m1 v H1 ⟨⟨p, S, n, e, ⟨i, hm⟩⟩, q⟩ => k x m1 v H1 ⟨⟨p, i, S, n, e, hm⟩, fun σ H s M QQ k => q σ H s M QQ fun xs m2 vs H2 ⟨p, S, n, kk, m3, e1, e2, ⟨i, hm, em⟩, hn, q⟩ => k xs m2 vs H2 ⟨p, i, S, n, kk, e1, e2, hm, hn, em ▸ q⟩⟩
theorem any_eqf {α : Type} [DecidableEq α] {f : α → D} (hf : ∀ x y, (f x).eqf (f y) = decide (x = y)) (o : List α) (g : α) : ((o.map f).any fun y => y.eqf (f g)) = decide (g ∈ o) := by
  induction o with
  | nil => rfl
  | cons a o ih =>
    rw [List.map_cons, List.any_cons, ih, hf]
    by_cases e : a = g
    · subst e
      simp
    · have e' : ¬ g = a := fun z => e z.symm
      simp [e, e']
theorem eqf_str (x y : Str) : (D.str x).eqf (.str y) = decide (x = y) := by
  show (x == y) = _
  by_cases h : x = y
  · subst h; simp
  · rw [decide_eq_false h]
    exact beq_eq_false_iff_ne.mpr h
theorem flat_strs (o : List Str) : (o.map D.str).all D.flat = true := by simp [D.flat]
section
variable {Pg : Program} {w : World}
theorem in_sL {o : List Str} {g : Str} (q : Q (.bl (decide (g ∈ o))) m) : OW K (rInU Pg w K) (.str g) (.lst (o.map D.str)) m Q :=
  ow_or1 (rin_L (flat_strs o) rfl (by have := any_eqf eqf_str o g; rw [if_neg Bool.false_ne_true]; rw [this]; exact q))
theorem in_S {S : Key → Bool} {n : Nat} {x : Key} (hm : MAt m p (setC Pg w p S n)) (q : Q (.bl (S x)) m) : OW K (rInU Pg w K) (kD x) (.adr p) m Q := let ⟨_, hm⟩ := hm
  ow_or2 (ow_or2 (ow_or1 (rin_S hm (by rw [if_neg Bool.false_ne_true]; exact q))))
theorem in_sg {c : Nat} {z : Str} (q : Q (.bl (decide (c ∈ z.cps.toList))) m) : OW K (rInU Pg w K) (.str ⟨#[c]⟩) (.str z) m Q := ow_or2 (ow_or2 (ow_or2 (ow_sgn q)))
end
/-- l[i] of a mapped list -/
theorem at_map {α : Type} {f : α → D} {xs : List α} {i : Nat} {x : α} (h : xs[i]? = some x) : L2.atI (xs.map f) ((i : Nat) : Int) = some (f x) :=
  atI_lt (Int.natCast_nonneg i) (by rw [Int.toNat_natCast, List.getElem?_map, h]; rfl)
end
end DL

set_option Elab.async false
set_option linter.all false
set_option maxRecDepth 100000
set_option maxHeartbeats 1000000
set_option autoImplicit false
/-! What may be shown, and how long it is then. -/
namespace DL
open PySem PySem.Spec PyProof.Rows L2
structure Shw (n B : Nat) (d : PyData) : Prop where
  ok : d.showable = true
  nd : d.hasDict = false
  dp : d.depth ≤ n
  le : d.shown.length ≤ B
theorem Shw.up {n n' B B' : Nat} {d : PyData} (h : Shw n B d) (a : n ≤ n') (b : B ≤ B') : Shw n' B' d := ⟨h.ok, h.nd, Nat.le_trans h.dp a, Nat.le_trans h.le b⟩
theorem shw_all {n B : Nat} : ∀ {xs : List PyData}, (∀ x ∈ xs, Shw n B x) → PyData.showableAll xs = true ∧ PyData.hasDictAll xs = false ∧ PyData.depthAll xs ≤ n ∧ ((PyData.shownAll xs).map (·.length)).sum ≤ xs.length * B ∧ (PyData.shownAll xs).length = xs.length
  | [], _ => by simp [PyData.showableAll, PyData.hasDictAll, PyData.depthAll, PyData.shownAll]
  | x :: xs, h => by
    obtain ⟨a, b, c, d, e⟩ := shw_all (xs := xs) fun y hy => h y (List.mem_cons_of_mem _ hy)
    have hx := h x List.mem_cons_self
    have h4 := hx.le
    have h3 := hx.dp
    simp only [PyData.showableAll, PyData.hasDictAll, PyData.depthAll, PyData.shownAll, List.map_cons, List.sum_cons, List.length_cons, hx.ok, hx.nd, a, b, e, Bool.and_self, Bool.or_self, true_and]
    refine ⟨by omega, ?_⟩
    have e1 : (xs.length + 1) * B = xs.length * B + B := Nat.succ_mul _ _
    refine ⟨?_, trivial⟩
    omega
theorem Shw.list {n B : Nat} {xs : List PyData} (h : ∀ x ∈ xs, Shw n B x) : Shw (n + 1) (xs.length * (B + 2) + 3) (.list xs) := by
  obtain ⟨a, b, c, d, e⟩ := shw_all h
  have l := listText_len_le (PyData.shownAll xs)
  refine ⟨by simpa only [PyData.showable] using a, by simpa only [PyData.hasDict] using b, by simp only [PyData.depth]; omega, ?_⟩
  simp only [PyData.shown]
  rw [Nat.mul_add]
  rw [e] at l
  omega
theorem Shw.tuple {n B : Nat} {xs : List PyData} (h : ∀ x ∈ xs, Shw n B x) : Shw (n + 1) (xs.length * (B + 2) + 3) (.tuple xs) := by
  obtain ⟨a, b, c, d, e⟩ := shw_all h
  have l := tupleText_len_le (PyData.shownAll xs)
  refine ⟨by simpa only [PyData.showable] using a, by simpa only [PyData.hasDict] using b, by simp only [PyData.depth]; omega, ?_⟩
  simp only [PyData.shown]
  rw [Nat.mul_add]
  rw [e] at l
  omega
theorem Shw.str {x : Str} (h : PyData.strOk x = true) : Shw 0 (10 * x.length + 2) (.str x) := by
  refine ⟨by simp only [PyData.showable], by simp only [PyData.hasDict], by simp only [PyData.depth]; omega, ?_⟩
  simp only [PyData.shown]
  refine StrLaws.reprText_len x fun c hc => ?_
  unfold PyData.strOk at h
  rw [Array.all_eq_true'] at h
  have := of_decide_eq_true (h c (by simpa using hc))
  exact Nat.lt_of_lt_of_le this (by decide)
theorem cw_show {K : PySem.W.Frag} {m : Mem} {Q : D → Mem → Prop} {x : D} {d : PyData} {n B : Nat} (h : Res K m x d) (hx : (∃ xs, x = .lst xs) ∨ (∃ xs, x = .tup xs) ∨ ∃ p, x = .adr p) (s : Shw n B d) (hn : n ≤ 64) (hB : B ≤ sizeLine) (q : Q (.str d.shown) m) : CW K (rRepr K) [x] m Q :=
  cw_repr h hx s.ok s.nd (Nat.le_trans s.dp hn) (Nat.le_trans s.le hB) q
end DL

set_option Elab.async false
set_option linter.all false
set_option maxRecDepth 100000
set_option maxHeartbeats 1000000
set_option autoImplicit false
/-! More operations: the last bit, a text so often. -/
namespace DL
open PySem PySem.Spec PyProof.Rows L2
def rOdd : R2 := fun x y H Q => ∃ n : Nat, x = .int (n : Int) ∧ y = .int 1 ∧ Q (.int ((n % 2 : Nat) : Int)) H
section
variable {K : PySem.W.Frag} {m : Mem} {Q : D → Mem → Prop}
theorem ow_odd {n : Nat} (q : Q (.int ((n % 2 : Nat) : Int)) m) : OW K rOdd (.int (n : Nat)) (.int 1) m Q := fun H v w M a b QQ k => by
  cases a
  cases b
  exact ⟨n, rfl, rfl, k _ m _ H q (Sub.refl _) M (.int _)⟩
theorem ow_mulS {x : Str} {i : Int} (h : PySem.MulOk x i) (q : Q (.str (Txt.mul x i)) m) : OW K rMulU (.str x) (.int i) m Q := ow_or2 (ow_or2 fun H v w M a b QQ k => by
  cases a
  cases b
  exact ⟨x, i, rfl, rfl, h, k _ m _ H q (Sub.refl _) M (.str _)⟩)
end
end DL

set_option Elab.async false
set_option linter.all false
set_option maxRecDepth 100000
set_option maxHeartbeats 1000000
set_option autoImplicit false
/-! Calls in any shape (positions, keywords, defaults); own ==; lists that may be cells. -/
namespace DL
open PySem PySem.Spec PyProof.Rows L2
def pickN {α : Type} (idx : List Nat) (xs : List α) : List α := idx.filterMap fun i => xs[i]?
theorem RdL.none_of {K : PySem.W.Frag} {F : Hp} {vs : List V} {ds : List D} {i : Nat} (r : RdL K F vs ds) (e : ds[i]? = none) : vs[i]? = none := by
  have l := r.length
  rw [List.getElem?_eq_none_iff] at e ⊢
  omega
theorem pick_rd {K : PySem.W.Frag} {F : Hp} {vs : List V} {ds : List D} (r : RdL K F vs ds) : ∀ idx : List Nat, RdL K F (pickN idx vs) (pickN idx ds)
  | [] => .nil
  | i :: idx => by
    have ih := pick_rd r idx
    unfold pickN at ih ⊢
    cases c : ds[i]? with
    | none => rw [List.filterMap_cons_none (by exact r.none_of c), List.filterMap_cons_none (by exact c)]; exact ih
    | some d =>
      obtain ⟨v, a, b⟩ := r.get c
      rw [List.filterMap_cons_some (by exact a), List.filterMap_cons_some (by exact c)]
      exact .cons b ih
theorem pick_vals {vs : List V} {us : List Value} (r : Vals vs us) : ∀ idx : List Nat, Vals (pickN idx vs) (pickN idx us)
  | [] => .nil
  | i :: idx => by
    have ih := pick_vals r idx
    unfold pickN at ih ⊢
    cases c : vs[i]? with
    | none => rw [List.filterMap_cons_none (by exact c), List.filterMap_cons_none (by exact r.none_of c)]; exact ih
    | some d =>
      obtain ⟨v, a, b⟩ := r.get c
      rw [List.filterMap_cons_some (by exact c), List.filterMap_cons_some (by exact a)]
      exact .cons b ih
/-- how a call with n values and the keywords ks binds; dd the defaults -/
def KBS (K : PySem.W.Frag) (f : Addr) (ps : List Str) (n : Nat) (ks : List Str) (idx : List Nat) (dd : List D) : Prop := ∀ fd, FdAt K f fd → ∃ (its : List Value) (dvs : List V), (∀ F, RdL K F dvs dd) ∧ Vals dvs its ∧
  ∀ (s : Shared) (us ws : List Value), K.In s.heap → us.length = n → ws.length = ks.length → BindsTo s fd ⟨us, ks.zip ws⟩ (ps.zip (pickN idx (us ++ (ws ++ its))))
theorem KBS.kbn {K : PySem.W.Frag} {f : Addr} {ps ks : List Str} {n : Nat} {idx : List Nat} {dd : List D} {fd : FuncData} (h : KBS K f ps n ks idx dd) (e : FdAt K f fd) :
    ∃ (its : List Value) (dvs : List V), (∀ F, RdL K F dvs dd) ∧ KBn K fd ps n ks (fun us ws => pickN idx (us ++ (ws ++ its))) (fun vs zs => pickN idx (vs ++ (zs ++ dvs))) := by
  obtain ⟨its, dvs, hd, hv, hb⟩ := h fd e
  exact ⟨its, dvs, hd, hb, fun r1 r2 => pick_vals (r1.append (r2.append hv)) idx⟩
section
variable {K : PySem.W.Frag} {x qual : Str} {st : Stmt} {f T : Addr} {ps ks : List Str} {oc kV dc pm cd ct oT : Value} {od an dT : Option Addr} {sl sT : Array (Option Value)} {its : Array Value} {nT n : Nat} {idx : List Nat} {dd : List D} {dvs : List V}
theorem kbs_mk (l : K.lookup f = some ⟨oc, od, .func (PySem.W.fnOf x qual (defArgs st) (defBody st) (defScope st) .none kV dc pm an cd ct), sl⟩)
    (b : ∀ (kV dc pm : Value) (an : Option Addr) (cd ct : Value) (us ws : List Value), us.length = n → ws.length = ks.length → bindArgs (PySem.W.fnOf x qual (defArgs st) (defBody st) (defScope st) .none kV dc pm an cd ct) ⟨us, ks.zip ws⟩ = pure (ps.zip (pickN idx (us ++ (ws ++ []))))) : KBS K f ps n ks idx [] := fun fd e => by
  rw [← fdAt_inj ⟨oc, od, sl, l⟩ e]
  exact ⟨[], [], fun _ => .nil, .nil, fun s us ws _ l1 l2 => BindsTo.of_eq (b kV dc pm an cd ct us ws l1 l2)⟩
end
/-! ### the readings of such calls -/
def tFunS (K : PySem.W.Frag) (n m : Nat) (idx : List Nat) (dd : List D) (sp : Sp) (E : XK) (t tk : TA) : TE := fun σ H Q => t σ H fun vs H1 => tk σ H1 fun zs H2 => vs.length = n ∧ zs.length = m ∧ ∀ dvs, (∀ F, RdL K F dvs dd) → sp (pickN idx (vs ++ (zs ++ dvs))) H2 Q E
def tMethS (K : PySem.W.Frag) (C : Addr) (nm : Str) (n m : Nat) (idx : List Nat) (dd : List D) (sp : Sp) (E : XK) (ta : TE) (t tk : TA) : TE := fun σ H Q => ta σ H fun x H1 => ∃ a dx fs, x = .ref a ∧ H1 a = some (.ins C dx fs) ∧ fs.lookup nm = none ∧
  t σ H1 fun vs H2 => tk σ H2 fun zs H3 => vs.length = n ∧ zs.length = m ∧ ∀ dvs, (∀ F, RdL K F dvs dd) → sp (pickN idx (x :: (vs ++ (zs ++ dvs)))) H3 Q E
def tMakeS (K : PySem.W.Frag) (C : Addr) (n m : Nat) (idx : List Nat) (dd : List D) (sp : Sp) (E : XK) (t tk : TA) : TE := fun σ H Q => t σ H fun vs H1 => tk σ H1 fun zs H2 => vs.length = n ∧ zs.length = m ∧ ∀ dvs, (∀ F, RdL K F dvs dd) →
  ∀ x dx, H2 x = none → H2 dx = none → dx ≠ x → sp (pickN idx (.ref x :: (vs ++ (zs ++ dvs)))) (upd (upd H2 dx (.own x)) x (.ins C dx [])) (fun v H3 => v = .non ∧ Q (.ref x) H3) E
section
variable {X : Cx} {k n : Nat} {f C : Addr} {ps ks : List Str} {Pf : FS} {x nm : Str} {p pos apos : Pos} {e o : Expr} {es : List Expr} {kws : List Keyword} {ta : TE} {t tk : TA} {idx : List Nat} {dd : List D} (K : PySem.W.Frag) (hK : X.K = K)
include hK
end
section
variable {K : PySem.W.Frag} {δ : List (Option D)} {m : Mem} {Q : D → Mem → Prop} {ta te : TE} {t tk : TA} {Pf : FS} {E : XK} {n l : Nat} {idx : List Nat} {dd : List D} {C : Addr} {nm : Str}
end
/-! ### own == -/
def rOwnEq (C : Addr) (sp : Sp) : R2 := fun x y H Q => ∃ a b dx dy fs gs, x = .ref a ∧ y = .ref b ∧ H a = some (.ins C dx fs) ∧ H b = some (.ins C dy gs) ∧ sp [.ref a, .ref b] H (fun v H' => ∃ r, v = .bl r ∧ Q v H') E0
section
variable {X : Cx} {k : Nat} {f C : Addr} {ps : List Str} {Pf : FS}
theorem op_ownEq (hs : PySem.W.findIn X.K (.ref C) "__eq__" = some (some (.ref f)) ∧ PySem.W.isFn X.K (.ref f) = true) (D : Def X.prog X.w X.K X.mg X.base k f ps Pf) (hr : Room k X.A) : OpR X (compareOp .Eq) (rOwnEq C (spOf X.K Pf)) := by
  obtain ⟨fd, F, hb, _⟩ := D
  intro pins s σ H x y v u Q I rx ry h
  obtain ⟨a, b, dx, dy, fs, gs, rfl, rfl, ha, hb', q⟩ := h
  cases rx
  cases ry
  obtain ⟨mA, J, _⟩ := ins_get I.hok ha
  obtain ⟨mB, J', _⟩ := ins_get I.hok hb'
  obtain ⟨od, J, _⟩ := J.look
  obtain ⟨od', J', _⟩ := J'.look
  obtain ⟨mm, hF⟩ := I.fr
  show wpAny (model X.prog X.w) X.A (richCompare .Eq (.ref a) (.ref b)) (EP X pins σ Q) X.xe s
  refine PySem.W.cmp_K (op := .Eq) (tb := .ref C) hr.units0 hF I.ok.mod.kin J J'.type (by simp [PySem.W.notFirst]) hs.1 hs.2 ?_
  have hl := F.len _ _ _ _ q
  have r2 : Vals [V.ref a, V.ref b] [Value.ref a, Value.ref b] := .cons rfl (.cons rfl .nil)
  refine wpAny_call (codeAny_mono (F.run X.A X.stack s H ⟨[.ref a, .ref b], []⟩ [.ref a, .ref b] [.ref a, .ref b] _ E0 hr I.env0 (by
    have := hb s [.ref a, .ref b] I.kIn (by simpa using hl)
    simpa using this) r2 q) fun r s' hq => ?_)
  cases r with
  | error e => exact hq.elim
  | ok fl =>
    cases fl with
    | ret w =>
      obtain ⟨z, H', I', rz, r, ez, q2⟩ := I.after hq
      subst ez
      cases rz
      exact ⟨.bl r, H', I', rfl, q2⟩
    | next => exact False.elim hq
    | brk => exact False.elim hq
    | cont => exact False.elim hq
end
theorem kx_ownEq {X : Cx} {k : Nat} {f C : Addr} {ps : List Str} {Pf : FS} (K : PySem.W.Frag) (hK : X.K = K) (hs : PySem.W.findIn K (.ref C) "__eq__" = some (some (.ref f)) ∧ PySem.W.isFn K (.ref f) = true) (D : Def X.prog X.w K X.mg X.base k f ps Pf) (hr : Room k X.A) : OpR X (compareOp .Eq) (rOwnEq C (spOf K Pf)) := by
  subst hK; exact op_ownEq hs D hr
theorem ow_own {K : PySem.W.Frag} {m : Mem} {Q : D → Mem → Prop} {C : Addr} {Pf : FS} {fs gs : List (Str × D)} (h : Pf [.ins C fs, .ins C gs] m fun d m' => ∃ b, d = .bl b ∧ Q d m') : OW K (rOwnEq C (spOf K Pf)) (.ins C fs) (.ins C gs) m Q := fun H v w M a b QQ k => by
  obtain ⟨x, dx, xs, rfl, e, nm, r⟩ := ins_at a
  obtain ⟨y, dy, ys, rfl, e', nm', r'⟩ := ins_at b
  refine ⟨x, y, dx, dy, xs, ys, rfl, rfl, e, e', _, m, _, .cons a (.cons b .nil), M, h, fun d m' v H' ⟨z, ed, q⟩ s2 M2 r2 => ?_⟩
  subst ed
  cases r2
  exact ⟨z, rfl, k _ m' _ H' q s2 M2 (.bl z)⟩
/-! ### isinstance -/
section
variable {K : PySem.W.Frag} {m : Mem} {Q : D → Mem → Prop}
/-- what isinstance asks of an own class -/
structure IsOwn (K : PySem.W.Frag) (C : Addr) : Prop where
  ha : PySem.W.findIn K (.ref C) "__class__" = some (some (.builtin "object.__class__"))
  hn : PySem.W.specialIn K (.builtin "object.__class__") "__get__" = some (some (.builtin "getset_descriptor.__get__"))
  tk : PySem.W.takesIn K (.builtin "object.__class__") = some true
  mro : PySem.W.mroIn K C (.type "object") = some true
theorem cw_isiO {C : Addr} {fs : List (Str × D)} (cl : Cls K C) (io : IsOwn K C) (q : Q (.bl true) m) : CW K (rIsi K) [.ins C fs, .adr C] m Q := fun H vs M a QQ k => by
  cases a with
  | cons a a2 =>
    cases a2 with
    | cons a2 a3 =>
      cases a3
      cases a2
      obtain ⟨p, dx, xs, rfl, e, nm, r⟩ := ins_at a
      refine ⟨_, _, .ref C, .ref C, true, rfl, .own C, .base (.ins e cl io.ha io.hn io.tk io.mro), ?_, k _ m _ H q (Sub.refl _) M (.bl true)⟩
      unfold PySem.W.kitOne
      rw [if_pos (by simp)]
/-! ### a list that is data or a cell -/
def SeqIn (m : Mem) (x : D) (ds : List D) : Prop := x = .lst ds ∨ ∃ p, x = .adr p ∧ MAt m p (.lst ds)
theorem SeqIn.app {m r : Mem} {x : D} {ds : List D} (h : SeqIn m x ds) : SeqIn (m ++ r) x ds := h.imp id fun ⟨p, e, h⟩ => ⟨p, e, h.app⟩
theorem SeqIn.of {ds : List D} : SeqIn m (.lst ds) ds := .inl rfl
theorem SeqIn.at_ {p : Addr} {ds : List D} (h : MAt m p (.lst ds)) : SeqIn m (.adr p) ds := .inr ⟨p, rfl, h⟩
theorem SeqIn.get {x : D} {ds : List D} {H : Hp} {v : V} (h : SeqIn m x ds) (M : MemOk K m H) (r : Rd K (hide m H) v x) : ∃ a xs, v = .ref a ∧ H a = some (.lst xs) ∧ RdL K (hide m H) xs ds := by
  rcases h with rfl | ⟨p, rfl, i, hm⟩
  · exact lst_at r
  · cases r
    obtain ⟨xs, e, r⟩ := cell_at M hm
    exact ⟨p, xs, rfl, e, r⟩
theorem cq_len {x : D} {ds : List D} (h : SeqIn m x ds) (q : Q (.int (ds.length : Nat)) m) : CW K (rLenU K) [x] m Q := by
  rcases h with rfl | ⟨p, rfl, i, hm⟩
  · exact cw_lenL q
  · exact cw_lenM hm q
theorem cq_list {x : D} {ds : List D} (h : SeqIn m x ds) (q : Q (.lst ds) m) : CW K (rListU K) [x] m Q := by
  rcases h with rfl | ⟨p, rfl, i, hm⟩
  · exact cw_listL q
  · exact cw_listM hm q
theorem Res.seq {x : D} {ds : List D} {ps : List PyData} (h : SeqIn m x ds) (r : ResL K m ds ps) : Res K m x (.list ps) := by
  rcases h with rfl | ⟨p, rfl, hm⟩
  · exact Res.lst r
  · exact Res.adr hm r
/-- == of data, cells looked through -/
theorem oq_eqR (n : Nat) {x y d e : D} (hx : Res K m x d.py) (hy : Res K m y e.py) (nx : d.nb n = true) (ny : e.nb n = true) (q : ∀ b : Bool, (b = true ↔ d = e) → Q (.bl b) m) (hn : n ≤ 64 := by decide) : OW K (rEqU K) x y m Q :=
  ow_or1 fun H v w M a b QQ k => ⟨d.py, e.py, hx H v M a, hy H w M b, fl_ok (nb_fl n d nx) hn, fl_ok (nb_fl n e ny) hn, k _ m _ H (q _ (eqv_nb n d e nx ny)) (Sub.refl _) M (.bl _)⟩
end
/-! ### walks over a list that is data or a cell -/
section
variable {K : PySem.W.Frag} {δ : List (Option D)} {m : Mem} {Q : D → Mem → Prop} {te tl : TE} {P : Ps} {t : TS} {tt : TT} {g : TG}
end
/-! ### any cell of a memory, changed -/
theorem MAt.up {m : Mem} {p : Addr} {c : Cell} (h : MAt m p c) (c' : Cell) : ∃ m', MUp m p c c' m' := let ⟨i, h⟩ := h; ⟨_, i, h, rfl⟩
theorem MUp.keeps {m m' : Mem} {p q : Addr} {c c' d : Cell} (h : MUp m p c c' m') (g : MAt m q d) : MAt m' q d ∨ (q = p ∧ MAt m' q c') := by
  obtain ⟨i, h, rfl⟩ := h
  obtain ⟨j, g⟩ := g
  by_cases e : i = j
  · subst e
    rw [h] at g
    cases g
    refine .inr ⟨rfl, i, ?_⟩
    rw [List.getElem?_set_self (List.getElem?_eq_some_iff.mp h).1]
  · exact .inl ⟨j, by rw [List.getElem?_set_ne e]; exact g⟩
theorem Shw.int {i : Int} (h : i.natAbs < 10 ^ 12) : Shw 0 13 (.int i) := by
  refine ⟨?_, by simp only [PyData.hasDict], by simp only [PyData.depth]; omega, PyData.shown_int_le h⟩
  simp only [PyData.showable, decide_eq_true_eq]
  by_cases z : i.natAbs = 0
  · rw [z]; decide
  · rw [Nat.log2_lt z]
    exact Nat.lt_trans h (by decide)
theorem Shw.non : Shw 0 13 .none := ⟨by simp only [PyData.showable], by simp only [PyData.hasDict], by simp only [PyData.depth]; omega, by simp only [PyData.shown]; decide⟩
theorem resL_fl {K : PySem.W.Frag} {m : Mem} {n : Nat} : ∀ {xs : List D}, xs.all (D.fl n) = true → ResL K m xs (D.pyL xs)
  | [], _ => ResL.nil
  | x :: xs, h => by
    rw [List.all_cons, Bool.and_eq_true] at h
    exact ResL.cons (Res.fl h.1) (resL_fl h.2)
end DL

set_option Elab.async false
set_option linter.all false
set_option maxRecDepth 100000
set_option maxHeartbeats 1000000
set_option autoImplicit false
/-! service[name]; zip; lists repeated; list(range); len(set(..)); tuple(..). -/
namespace DL
open PySem PySem.Spec PyProof.Rows L2
section
variable {X : Cx} {k : Nat} {f C : Addr} {ps : List Str} {Pf : FS} {a b : Expr} {ta tb : TE} {pos : Pos}
end
section
variable {K : PySem.W.Frag} {δ : List (Option D)} {m : Mem} {Q : D → Mem → Prop} {te ta tb : TE}
/-! ### tuple(xs) -/
def rTupU (K : PySem.W.Frag) : List V → Hp → VK → Prop := fun xs H Q => ∃ p ys, xs = [.ref p] ∧ ((SqL K H p ys ∧ ∀ l, H l = none → Q (.ref l) (upd H l (.tup ys))) ∨ (SqT K H p ys ∧ Q (.ref p) H))
theorem kx_tupU {X : Cx} (K : PySem.W.Frag) (hK : X.K = K) : CallR X (.type "tuple") (rTupU K) := by subst hK; exact call_tuple_of
end
section
variable {K : PySem.W.Frag} {δ : List (Option D)} {m : Mem} {Q : D → Mem → Prop} {te ta tb : TE}
end
section
variable {K : PySem.W.Frag} {δ : List (Option D)} {m : Mem} {Q : D → Mem → Prop} {te : TE} {tt : TT} {g : TG} {wi : TI}
end
end DL

set_option Elab.async false
set_option linter.all false
set_option maxRecDepth 100000
set_option maxHeartbeats 1000000
set_option autoImplicit false
/-! != of an own class with its own ==; sorted, dict(..), dicts by comprehension. -/
namespace DL
open PySem PySem.Spec PyProof.Rows L2
theorem ifBound_slot {M : Model} {A : Around} {E : Value → Shared → Prop} {s : Shared} {self : Value} {name : PySem.Str} {id : String} {args : List Value} {Q : Option Value → Shared → Prop} (sp : PySem.W.Looks M s.heap (specialOf self name) (some (.builtin id))) (hb : bindSpecial (.builtin id) self = pure (.builtin id, [self]))
    (hc : wpAny M A (call (.builtin id) (self :: args)) (fun v => Q (some v)) E s) : wpAny M A (callSpecialIfBound? self name args) Q E s := by
  simp only [callSpecialIfBound?, bindSpecialIfBound?]
  refine wpAny_holding (wpAny_bind (wpAny_bind (sp.here ?_)))
  simp only [hb]
  refine wpAny_bind (wpAny_askSetting (wpAny_ite ?_))
  have fin : wpAny M A (call (.builtin id) ([self] ++ args) >>= fun v => pure (some v)) Q E s := wpAny_bind (wpAny_mono hc (fun v s' h' => wpAny_pure h') fun _ _ h' => h')
  split
  · exact wpAny_bind (wpAny_pure (wpAny_pure fin))
  · exact wpAny_tryCatch (wpAny_bind (wpAny_pure (wpAny_pure fin)))
def rOwnNe (C : Addr) (sp : Sp) : R2 := fun x y H Q => ∃ a b dx dy fs gs, x = .ref a ∧ y = .ref b ∧ H a = some (.ins C dx fs) ∧ H b = some (.ins C dy gs) ∧ sp [.ref a, .ref b] H (fun v H' => ∃ r, v = .bl r ∧ Q (.bl (!r)) H') E0
/-- what != asks of an own class -/
structure NeOwn (K : PySem.W.Frag) (C : Addr) : Prop where
  ne : PySem.W.findIn K (.ref C) "__ne__" = some (some (.builtin "object.__ne__"))
  mro : PySem.W.mroIn K C (.type "object") = some true
section
variable {X : Cx} {k : Nat} {f C : Addr} {ps : List Str} {Pf : FS}
theorem op_ownNe (hs : PySem.W.findIn X.K (.ref C) "__eq__" = some (some (.ref f)) ∧ PySem.W.isFn X.K (.ref f) = true) (N : NeOwn X.K C) (D : Def X.prog X.w X.K X.mg X.base k f ps Pf) (hr : Room (k + 1) X.A) : OpR X (compareOp .NotEq) (rOwnNe C (spOf X.K Pf)) := by
  obtain ⟨fd, F, hb, _⟩ := D
  intro pins s σ H x y v u Q I rx ry h
  obtain ⟨a, b, dx, dy, fs, gs, rfl, rfl, ha, hb', q⟩ := h
  cases rx
  cases ry
  obtain ⟨mA, J, _⟩ := ins_get I.hok ha
  obtain ⟨mB, J', _⟩ := ins_get I.hok hb'
  obtain ⟨od, J, _⟩ := J.look
  obtain ⟨od', J', _⟩ := J'.look
  have hu : X.A.units < cLine := hr.units0
  show wpAny (model X.prog X.w) X.A (richCompare .NotEq (.ref a) (.ref b)) (EP X pins σ Q) X.xe s
  have hl := F.len _ _ _ _ q
  have r2 : Vals [V.ref a, V.ref b] [Value.ref a, Value.ref b] := .cons rfl (.cons rfl .nil)
  have run : wpAny (model X.prog X.w) X.A.in1 (call (.ref f) [.ref a, .ref b]) (fun v s' => ∃ b, v = .bool b ∧ EP X pins σ Q (.bool (!b)) s') X.xe s := by
    refine wpAny_call (codeAny_mono (F.run X.A.in1 X.stack s H ⟨[.ref a, .ref b], []⟩ [.ref a, .ref b] [.ref a, .ref b] _ E0 hr.in1 I.env0.in1 (by
      have := hb s [.ref a, .ref b] I.kIn (by simpa using hl)
      simpa using this) r2 q) fun r s' hq => ?_)
    cases r with
    | error e => exact hq.elim
    | ok fl =>
      cases fl with
      | ret w =>
        obtain ⟨z, H', I', rz, r, ez, q2⟩ := I.after hq
        subst ez
        cases rz
        exact ⟨r, rfl, .bl (!r), H', I', rfl, q2⟩
      | next => exact False.elim hq
      | brk => exact False.elim hq
      | cont => exact False.elim hq
  have body : wpAny (model X.prog X.w) X.A.in1 (Builtin.«object.__ne__» ⟨[.ref a, .ref b], []⟩) (fun fin s' => ∃ b, fin = .done (.ret (.bool b)) ∧ EP X pins σ Q (.bool b) s') X.xe s := by
    have hu1 : X.A.in1.units < cLine := hr.in1.units0
    have kin := I.kIn
    obtain ⟨hp, g, d, t, os⟩ := s
    unfold Builtin.«object.__ne__»
    repeat (first
      | with_reducible refine wpAny_cRoomFor hu1 ?_
      | (refine wpAny_bind (m := callSpecialIfBound? (.ref a) (Str.ofString "__eq__") [.ref b])
          (PySem.W.ifBound_K kin J hs.1 hs.2 (wpAny_mono run (fun r s' hr => by
            obtain ⟨c, rfl, hq⟩ := hr
            have fin : ∃ b, Fin.done (.ret (.bool (!c))) = .done (.ret (.bool b)) ∧ EP X pins σ Q (.bool b) s' := ⟨!c, rfl, hq⟩
            repeat (first | exact fin | exact wpAny_pure fin | exact wpAny_truthy_bool fin | (refine wpAny_bind (m := truthy (.bool _)) (wpAny_truthy_bool ?_)) | wp_step)) fun _ _ e => e)))
      | wp_step)
  have try1 : wpAny (model X.prog X.w) X.A (tryCompare (.ref a) "__ne__" (.ref b)) (fun r s' => ∃ v, r = some v ∧ EP X pins σ Q v s') X.xe s := by
    simp only [tryCompare]
    refine wpAny_bind (ifBound_slot (J.type.andThen (PySem.W.looks_findIn I.kIn N.ne)) (PySem.F.cmp_object.ne.bind _) (wpAny_call (codeAny_call_builtin PySem.F.cmp_object.ne.plain PySem.F.cmpEntry_ne
      (PySem.W.check_slot PySem.F.cmpKind_ne PySem.F.cmpSplit_ne (J.type.andThen (PySem.W.looks_mroIn I.kIn N.mro)) (PySem.F.cmpArgs_ne _ _) (wpAny_mono body (fun fin s' hv => ?_) fun _ _ e => e)))))
    obtain ⟨b, rfl, hq⟩ := hv
    first | exact wpAny_pure ⟨_, rfl, hq⟩ | exact wpAny_pure (wpAny_pure ⟨_, rfl, hq⟩) | exact ⟨b, rfl, hq⟩
  unfold richCompare
  simp only [oneThing_ref]
  refine wpAny_holding ?_
  refine wpAny_bind (wpAny_cRoomFor hu ?_)
  rw [cmpInfo_NotEq]
  dsimp only
  refine wpAny_bind (J.type.here (wpAny_bind (J'.type.here ?_)))
  rw [show (Value.ref C != Value.ref C) = false from by simp]
  simp only [Bool.false_eq_true, if_false]
  refine wpAny_bind (wpAny_pure ?_)
  simp only [Bool.false_eq_true, if_false]
  refine wpAny_bind (wpAny_mono try1 (fun r s' hv => ?_) fun _ _ e => e)
  obtain ⟨v, rfl, hq⟩ := hv
  first | exact wpAny_pure hq | exact wpAny_pure (wpAny_pure hq)
end
theorem kx_ownNe {X : Cx} {k : Nat} {f C : Addr} {ps : List Str} {Pf : FS} (K : PySem.W.Frag) (hK : X.K = K) (hs : PySem.W.findIn K (.ref C) "__eq__" = some (some (.ref f)) ∧ PySem.W.isFn K (.ref f) = true) (N : NeOwn K C) (D : Def X.prog X.w K X.mg X.base k f ps Pf) (hr : Room (k + 1) X.A) : OpR X (compareOp .NotEq) (rOwnNe C (spOf K Pf)) := by
  subst hK; exact op_ownNe hs N D hr
theorem ow_ownNe {K : PySem.W.Frag} {m : Mem} {Q : D → Mem → Prop} {C : Addr} {Pf : FS} {fs gs : List (Str × D)} (h : Pf [.ins C fs, .ins C gs] m fun d m' => ∃ b, d = .bl b ∧ Q (.bl (!b)) m') : OW K (rOwnNe C (spOf K Pf)) (.ins C fs) (.ins C gs) m Q := fun H v w M a b QQ k => by
  obtain ⟨x, dx, xs, rfl, e, nm, r⟩ := ins_at a
  obtain ⟨y, dy, ys, rfl, e', nm', r'⟩ := ins_at b
  refine ⟨x, y, dx, dy, xs, ys, rfl, rfl, e, e', _, m, _, .cons a (.cons b .nil), M, h, fun d m' v H' ⟨z, ed, q⟩ s2 M2 r2 => ?_⟩
  subst ed
  cases r2
  exact ⟨z, rfl, k _ m' _ H' q s2 M2 (.bl (!z))⟩
theorem ew_mid {K : PySem.W.Frag} {δ : List (Option D)} {m : Mem} {te : TE} {Q : D → Mem → Prop} (R : D → Mem → Prop) (h : EW K te δ m R) (n : ∀ d m', R d m' → Q d m') : EW K te δ m Q := fun σ H s M QQ k => h σ H s M QQ fun d m1 v1 H1 q => k d m1 v1 H1 (n d m1 q)
/-! ### sorted texts -/
def leT (a b : List Nat) : Prop := ltCps b a = false
theorem leT_trans : ∀ {a b c : List Nat}, leT a b → leT b c → leT a c
  | [], _, c, _, _ => by cases c <;> rfl
  | a :: r, [], c, h, _ => by simp [leT, ltCps] at h
  | a :: r, b :: t, [], _, h => by simp [leT, ltCps] at h
  | a :: r, b :: t, c :: u, h, h' => by
    unfold leT at h h' ⊢
    simp only [ltCps, Bool.or_eq_false_iff, decide_eq_false_iff_not, Bool.and_eq_false_iff, beq_eq_false_iff_ne, ne_eq] at h h' ⊢
    refine ⟨by omega, ?_⟩
    by_cases e : c = a
    · right
      have e1 : b = a := by omega
      have e2 : c = b := by omega
      refine leT_trans (a := r) (b := t) (c := u) ?_ ?_
      · rcases h.2 with h | h
        · exact absurd e1 h
        · exact h
      · rcases h'.2 with h | h
        · exact absurd e2 h
        · exact h
    · exact .inl e
theorem leT_anti : ∀ {a b : List Nat}, leT a b → leT b a → a = b
  | [], [], _, _ => rfl
  | [], _ :: _, _, h => by simp [leT, ltCps] at h
  | _ :: _, [], h, _ => by simp [leT, ltCps] at h
  | a :: r, b :: t, h, h' => by
    unfold leT at h h'
    simp only [ltCps, Bool.or_eq_false_iff, decide_eq_false_iff_not, Bool.and_eq_false_iff, beq_eq_false_iff_ne, ne_eq] at h h'
    have e : a = b := by omega
    subst e
    rw [leT_anti (a := r) (b := t) (by rcases h.2 with h | h; exact absurd rfl h; exact h) (by rcases h'.2 with h | h; exact absurd rfl h; exact h)]
def SortS (l : List Str) : Prop := l.Pairwise fun a b => leT a.cps.toList b.cps.toList
theorem rising_pw : ∀ {l : List Str} {p : Str}, risingS p l = true → (p :: l).Pairwise fun a b => leT a.cps.toList b.cps.toList
  | [], p, _ => List.pairwise_singleton _ _
  | x :: r, p, h => by
    unfold risingS at h
    rw [Bool.and_eq_true, Bool.not_eq_true'] at h
    have ih := rising_pw h.2
    refine List.pairwise_cons.mpr ⟨fun y hy => ?_, ih⟩
    rcases List.mem_cons.mp hy with rfl | hy
    · exact h.1
    · exact leT_trans h.1 ((List.pairwise_cons.mp ih).1 y hy)
theorem sortedS_pw {l : List Str} (h : sortedS l = true) : SortS l := by
  cases l with
  | nil => exact List.Pairwise.nil
  | cons x r => exact rising_pw h
theorem str_ext {a b : Str} (h : a.cps.toList = b.cps.toList) : a = b := by
  obtain ⟨a⟩ := a
  obtain ⟨b⟩ := b
  congr 1
  exact Array.ext' h
theorem SortS.uniq {l l' : List Str} (h : SortS l) (h' : SortS l') (p : l.Perm l') : l = l' :=
  List.Perm.eq_of_pairwise (le := fun a b : Str => leT a.cps.toList b.cps.toList) (fun a b _ _ h1 h2 => str_ext (leT_anti h1 h2)) h h' p
theorem SortS.pairs {α : Type} {l l' : List (Str × α)} (h : SortS (l.map (·.1))) (h' : SortS (l'.map (·.1))) (nd : (l.map (·.1)).Nodup) (p : l.Perm l') : l = l' := by
  have e := h.uniq h' (p.map _)
  refine List.ext_getElem? fun i => ?_
  have ei : (l.map (·.1))[i]? = (l'.map (·.1))[i]? := by rw [e]
  rw [List.getElem?_map, List.getElem?_map] at ei
  cases c : l[i]? with
  | none =>
    rw [c] at ei
    cases c' : l'[i]? with
    | none => rfl
    | some y => rw [c'] at ei; cases ei
  | some x =>
    rw [c] at ei
    cases c' : l'[i]? with
    | none => rw [c'] at ei; cases ei
    | some y =>
      rw [c'] at ei
      have e1 : x.1 = y.1 := by simpa using ei
      have hy : y ∈ l := p.mem_iff.mpr (List.mem_of_getElem? c')
      obtain ⟨j, hj⟩ := List.getElem?_of_mem hy
      have il : i < (l.map (·.1)).length := by rw [List.length_map]; exact (List.getElem?_eq_some_iff.mp c).1
      have : i = j := (List.getElem?_inj il nd).mp (by rw [List.getElem?_map, List.getElem?_map, c, hj]; show some x.1 = some y.1; rw [e1])
      subst this
      rw [c] at hj
      exact hj
def rSortT (K : PySem.W.Frag) : List V → Hp → VK → Prop := fun vs H Q => ∃ (a : Addr) (xs : List Str), vs = [V.ref a] ∧ SqT K H a (xs.map V.str) ∧ xs.length < 64 ∧ ∀ (ys : List Str) (p : Addr), ys.Perm xs → sortedS ys = true → H p = none → Q (.ref p) (upd H p (.lst (ys.map V.str)))
theorem cr_sortT {X : Cx} : CallR X (.builtin "sorted") (rSortT X.K) := by
  intro pins s σ H xs us Q I r q
  obtain ⟨a, ks, ex, hq, h64, q⟩ := q
  subst ex
  cases r with
  | cons r0 r1 =>
  cases r1
  cases r0
  obtain ⟨its, rv, hl, _⟩ := I.tuple hq
  have hlen0 : ks.length = its.length := by have := rv.length; rwa [List.length_map] at this
  obtain ⟨o, ho, hc, hd⟩ : ∃ o, s.heap.get? a = some o ∧ o.cls = .type "tuple" ∧ ∃ n, o.data = .seq its.toArray n := by
    obtain ⟨o, ho, hc, n, hd⟩ := (show s.heap.IsTuple a its.toArray from hl)
    exact ⟨o, ho, hc, n, hd⟩
  obtain ⟨n, hd⟩ := hd
  refine Calls.call_function_entry PyProof.Rows.kind_sorted PyProof.Rows.plain_sorted PyProof.Rows.entry_sorted (PyProof.Rows.args_sorted1 _) ?_
  unfold Builtin.«sorted»
  refine wpAny_bind (m := checkCount "sorted" 1 1 _) (wpAny_pure ?_)
  have h16 : its.toArray.size ≤ sizeLine := by rw [List.size_toArray, ← hlen0, sizeLine_eq]; omega
  refine wpAny_bind (wpAny_collect_seq (A := X.A.in1) a (.inr rfl) ho hc hd (fun h' hk => ?_) h16)
  have hS : StrsAre its.toArray.toList ks := by
    have := rv.strs
    simpa using this
  have hal : its.toArray.toList.length = ks.length := by simp [hlen0]
  have I1 : Inv X pins σ H { s with heap := h' } := I.kept (t' := s.toks) hk
  refine wpAny_bind (wpAny_newList ?_ (by rw [hal, sizeLine_eq]; omega))
  have hoL : (h'.push (seqObj "list" its.toArray.toList.toArray 0)).get? h'.objs.size = some (seqObj "list" its.toArray.toList.toArray 0) := Heap.get?_push_size _ rfl
  show wpAny _ _ _ _ _ { s with heap := h'.push (seqObj "list" its.toArray.toList.toArray 0) }
  refine wpAny_bind (wpAny_holding (wpAny_call_entry PyProof.Rows.slot_list_sort ⟨_, hoL, rfl⟩ PyProof.Rows.entry_list_sort
    (list_sort_treeK strKind_oneLt (s := { s with heap := h'.push (seqObj "list" its.toArray.toList.toArray 0) }) hoL hS.keysOf (fun v₁ v₂ rest e => keyKind_strs (by rw [← e]; exact hS)) (by rw [hal]; exact h64) fun st' hp hs => ⟨_, rfl, ?_⟩)
    (PyProof.Rows.args_list_sort _)))
  obtain ⟨ys, g1, g2, g3⟩ := sorted_out_str hS hp hs
  obtain ⟨e', he'⟩ := PyProof.Rows.sortedHeap_at (vs := its.toArray.toList) (out := (arrOf st').map (·.2)) hoL
  have hlen : (ys.map V.str).length ≤ sizeLine := by
    rw [List.length_map, g2.length_eq]
    exact Nat.le_trans (Nat.le_of_lt h64) (by decide)
  refine wpAny_pure ⟨_, rfl, .ref h'.objs.size, upd H h'.objs.size (.lst (ys.map V.str)), I1.laid (t' := s.toks) (fun b u e => ?_) (Nat.le_refl _)
    (show ObjOk X.prog X.w _ _ _ (.lst (ys.map V.str)) from ⟨hlen, ((arrOf st').map (·.2)).toList, e', vals_of_strs g1, by rw [Array.toArray_toList]; exact he'⟩), rfl, q ys _ g2 g3 (I1.hok.fresh (Nat.le_refl _))⟩
  have hb : b < h'.objs.size := Heap.lt_size e
  rw [PyProof.Rows.sortedHeap_old (Nat.ne_of_lt hb) (by rw [size_push']; exact Nat.lt_succ_of_lt hb)]
  exact Heap.get?_push_of_some _ e
end DL

set_option Elab.async false
set_option linter.all false
set_option maxRecDepth 100000
set_option maxHeartbeats 1000000
set_option autoImplicit false
/-! sorted, dict(..), dicts by comprehension with a test. -/
namespace DL
open PySem PySem.Spec PyProof.Rows L2
def rSortD : List V → Hp → VK → Prop := fun xs H Q => ∃ (a : Addr) (kvs : List (Key × V)) (ks : List Str), xs = [.ref a] ∧ L2.Rd H a (.dK kvs) ∧ kvs.map (·.1) = ks.map Sum.inr ∧ ks.length < 64 ∧ ∀ ys p, ys.Perm ks → sortedS ys = true → H p = none → Q (.ref p) (upd H p (.lst (ys.map V.str)))
def rSortU (K : PySem.W.Frag) : List V → Hp → VK → Prop := fun xs H Q => rSortedS K xs H Q ∨ (rSortD xs H Q ∨ rSortT K xs H Q)
theorem kx_sorted {X : Cx} (K : PySem.W.Frag) (hK : X.K = K) (hc : X.calm = true) : CallR X (.builtin "sorted") (rSortU K) := by
  subst hK
  exact CallR.or cr_sortedS (CallR.or (call_sortedD hc) cr_sortT)
section
variable {K : PySem.W.Frag} {δ : List (Option D)} {m : Mem} {Q : D → Mem → Prop}
theorem cw_sortL {ws : List Str} (h : ws.length < 64) (q : ∀ ys, ys.Perm ws → SortS ys → Q (.lst (ys.map .str)) m) : CW K (rSortU K) [.lst (ws.map .str)] m Q := fun H vs M a QQ k => by
  cases a with
  | cons a n =>
    cases n
    obtain ⟨p, xs, rfl, e, r⟩ := lst_at a
    have := r.strs_v
    subst this
    refine .inl ⟨p, ws, rfl, SqL.of e, h, fun ys z hp hs hz => ?_⟩
    obtain ⟨M2, s2, r3⟩ := new_lst M (RdL.strs (ns := ys)) hz
    exact k _ m _ _ (q ys hp (sortedS_pw hs)) s2 M2 r3
theorem cw_sortT {ws : List Str} (h : ws.length < 64) (q : ∀ ys, ys.Perm ws → SortS ys → Q (.lst (ys.map .str)) m) : CW K (rSortU K) [.tup (ws.map .str)] m Q := fun H vs M a QQ k => by
  cases a with
  | cons a n =>
    cases n
    obtain ⟨p, xs, rfl, e, r⟩ := tup_at a
    have := r.strs_v
    subst this
    refine .inr (.inr ⟨p, ws, rfl, e, h, fun ys z hp hs hz => ?_⟩)
    obtain ⟨M2, s2, r3⟩ := new_lst M (RdL.strs (ns := ys)) hz
    exact k _ m _ _ (q ys hp (sortedS_pw hs)) s2 M2 r3
/-! ### dict(xs), xs a list of pairs -/
def rDictP (K : PySem.W.Frag) : List V → Hp → VK → Prop := fun xs H Q => ∃ (a : Addr) (ps : List Addr) (kvs : List (Key × V)), xs = [.ref a] ∧ SqL K H a (ps.map V.ref) ∧ Paired (fun p kv => SqT K H p [kV kv.1, kv.2]) ps kvs ∧ ∀ p, H p = none → Q (.ref p) (upd H p (.dK (mergeK [] kvs)))
theorem kx_dictP {X : Cx} (K : PySem.W.Frag) (hK : X.K = K) (hc : X.calm = true) : CallR X (.type "dict") (rDictP K) := by subst hK; exact call_dictP hc
theorem merge_nd : ∀ (more kvs : List (Key × V)), ((kvs ++ more).map Prod.fst).Nodup → mergeK kvs more = kvs ++ more
  | [], kvs, _ => by simp [mergeK]
  | (k, v) :: more, kvs, nd => by
    have hput : putK kvs k v = kvs ++ [(k, v)] := by
      unfold putK
      rw [if_neg]
      rw [List.any_eq_true]
      rintro ⟨kv, hkv, e⟩
      have e : kv.1 = k := of_decide_eq_true e
      rw [List.map_append, List.map_cons] at nd
      exact (List.nodup_append.mp nd).2.2 kv.1 (List.mem_map_of_mem hkv) k (by simp) e
    have ih := merge_nd more (kvs ++ [(k, v)]) (by rw [List.append_assoc]; exact nd)
    unfold mergeK at ih ⊢
    rw [List.foldl_cons, hput, ih, List.append_assoc]
    rfl
abbrev pairKD (kv : Key × D) : D := .tup [kD kv.1, kv.2]
theorem pairs_at {F : Hp} : ∀ {kvs : List (Key × D)} {vs : List V}, RdL K F vs (kvs.map pairKD) → ∃ (ps : List Addr) (ws : List (Key × V)), vs = ps.map V.ref ∧ Paired (fun p kv => SqT K F p [kV kv.1, kv.2]) ps ws ∧ ws.map Prod.fst = kvs.map Prod.fst ∧ RdL K F (ws.map Prod.snd) (kvs.map Prod.snd)
  | [], _, .nil => ⟨[], [], rfl, .nil, rfl, .nil⟩
  | kv :: kvs, _, .cons r rs => by
    obtain ⟨ps, ws, rfl, hp, hk, hr⟩ := pairs_at rs
    cases r with
    | tup e r =>
      cases r with
      | cons r1 r2 =>
        cases r2 with
        | cons r2 r3 =>
          cases r3
          have ev := kD_v r1
          subst ev
          exact ⟨_ :: ps, (kv.1, _) :: ws, rfl, .cons e hp, by rw [List.map_cons, List.map_cons, hk], .cons r2 hr⟩
theorem paired_mono {F G : Hp} (s : Sub F G) : ∀ {ps : List Addr} {ws : List (Key × V)}, Paired (fun p kv => SqT K F p [kV kv.1, kv.2]) ps ws → Paired (fun p kv => SqT K G p [kV kv.1, kv.2]) ps ws
  | _, _, .nil => .nil
  | _, _, .cons h t => .cons (s.sqt h) (paired_mono s t)
theorem cw_dictP {kvs : List (Key × D)} (nd : (kvs.map Prod.fst).Nodup) (q : Q (.dic kvs) m) : CW K (rDictP K) [.lst (kvs.map pairKD)] m Q := fun H vs M a QQ k => by
  cases a with
  | cons a n =>
    cases n
    obtain ⟨p, xs, rfl, e, r⟩ := lst_at a
    obtain ⟨ps, ws, rfl, hp, hk, hr⟩ := pairs_at r
    refine ⟨p, ps, ws, rfl, SqL.of e, paired_mono hide_le hp, fun z hz => ?_⟩
    rw [merge_nd ws [] (by rw [List.nil_append, hk]; exact nd), List.nil_append]
    obtain ⟨M2, s2⟩ := M.new (o := .dK ws) hz
    refine k _ m _ _ q s2 M2 (.dic ?_ hk (hr.mono s2))
    rw [hide_new M hz]
    exact upd_same
end
end DL

set_option Elab.async false
set_option linter.all false
set_option maxRecDepth 100000
set_option maxHeartbeats 1000000
set_option autoImplicit false
/-! Errors: raised, let through, caught. -/
namespace DL
open PySem PySem.Spec PyProof.Rows L2
/-- the cell of an error's dict -/
abbrev xc (x : D) : Cell := .xd [("value", x)]
/-- what leaves by an error: the slots, its class, its value, the cells -/
abbrev XS := List (Option D) → Addr → D → Mem → Prop
section
variable (K : PySem.W.Frag)
def MeetsX (R : XS) (F : Hp) (W : WX) : Prop := ∀ (δ : List (Option D)) (C : Addr) (x : D) (m : Mem) (dd : Addr) (σ : L2.St) (H : Hp), R δ C x m → Sub F (hide (m ++ [(dd, xc x)]) H) → Sl K (hide (m ++ [(dd, xc x)]) H) σ δ → MemOk K (m ++ [(dd, xc x)]) H → W (.ref C) (some dd) σ H
def SWX (t : WX → TS) (R : XS) (δ : List (Option D)) (m : Mem) (P : Ps) : Prop := ∀ (σ : L2.St) (H : Hp), Sl K (hide m H) σ δ → MemOk K m H → ∀ E : Ends, Meets K P (hide m H) E → ∀ W : WX, MeetsX K R (hide m H) W → t W E σ H
def EWX (t : WX → TE) (R : XS) (δ : List (Option D)) (m : Mem) (Q : D → Mem → Prop) : Prop := ∀ (σ : L2.St) (H : Hp), Sl K (hide m H) σ δ → MemOk K m H → ∀ QQ : VK,
  (∀ (d : D) (m' : Mem) (v : V) (H' : Hp), Q d m' → Sub (hide m H) (hide m' H') → MemOk K m' H' → Rd K (hide m' H') v d → QQ v H') → ∀ W : WX, MeetsX K R (hide m H) W → t W σ H QQ
end
/-- what a raising def promises -/
abbrev FX := List D → Mem → (D → Mem → Prop) → (Addr → D → Mem → Prop) → Prop
abbrev FXn (n : Nat) (F : FX) : FX := fun ds m Q R => ds.length = n ∧ F ds m Q R
abbrev FX.quiet (F : FX) : FS := fun ds m Q => F ds m Q fun _ _ _ => False
def spX (K : PySem.W.Frag) (Pf : FX) : Sp := fun vs H Q E => ∃ (ds : List D) (m : Mem) (QS : D → Mem → Prop) (R : Addr → D → Mem → Prop), RdL K (hide m H) vs ds ∧ MemOk K m H ∧ Pf ds m QS R ∧
  (∀ (d : D) (m' : Mem) (v : V) (H' : Hp), QS d m' → Sub (hide m H) (hide m' H') → MemOk K m' H' → Rd K (hide m' H') v d → Q v H') ∧
  ∀ (C : Addr) (x : D) (m' : Mem) (dd : Addr) (H' : Hp), R C x m' → Sub (hide m H) (hide (m' ++ [(dd, xc x)]) H') → MemOk K (m' ++ [(dd, xc x)]) H' → E (.ref C) (some dd) H'
section
variable {K : PySem.W.Frag} {δ : List (Option D)} {m : Mem} {Q : D → Mem → Prop} {P : Ps} {R R' : XS} {F F' : Hp} {W : WX} {t u : WX → TS} {te : WX → TE} {tt : TT}
theorem MeetsX.mono (h : MeetsX K R F W) (e : Sub F F') : MeetsX K R F' W := fun δ C x m dd σ H q s => h δ C x m dd σ H q (e.trans s)
theorem swx_of {t : TS} (h : SW K t δ m P) : SWX K (fun _ => t) R δ m P := fun σ H s M E k _ _ => h σ H s M E k
theorem swx_seq (h : SWX K t R δ m { P with nx := fun δ' m' => SWX K u R δ' m' P }) : SWX K (fun W => tSeq (t W) (u W)) R δ m P := fun σ H s M E k W kx =>
  h σ H s M { E with nx := u W E } ⟨fun δ' m' σ' H' q e s' M' => q σ' H' s' M' E (k.mono e) W (kx.mono e), k.rt, k.bk, k.ct⟩ W kx
theorem swx_if (h : TW K tt δ m fun b m1 => if b = true then SWX K t R δ m1 P else SWX K u R δ m1 P) : SWX K (fun W => tIfS tt (t W) (u W)) R δ m P := fun σ H s M E k W kx =>
  h σ H s M _ fun b m1 H1 q s1 M1 => by
    cases b with
    | true =>
      rw [if_pos rfl] at q
      exact q σ H1 (s.mono s1) M1 E (k.mono s1) W (kx.mono s1)
    | false =>
      rw [if_neg Bool.false_ne_true] at q
      exact q σ H1 (s.mono s1) M1 E (k.mono s1) W (kx.mono s1)
theorem swx_drop (h : EWX K te R δ m fun _ m1 => P.nx δ m1) : SWX K (fun W => tDrop (te W)) R δ m P := fun σ H s M E k W kx => h σ H s M _ (fun d m1 v1 H1 q1 s1 M1 r1 => k.nx δ m1 σ H1 q1 s1 (s.mono s1) M1) W kx
theorem swx_asg {i : Nat} (h : EWX K te R δ m fun d m1 => P.nx (δ.set i (some d)) m1) : SWX K (fun W => tAsg (te W) (gName i)) R δ m P := fun σ H s M E k W kx =>
  h σ H s M _ (fun d m1 v1 H1 q1 s1 M1 r1 => k.nx (δ.set i (some d)) m1 (σ.set i (some v1)) H1 q1 s1 ((s.mono s1).set i r1) M1) W kx
theorem swx_ret (h : EWX K te R δ m P.rt) : SWX K (fun W => tRet (te W)) R δ m P := fun σ H s M E k W kx => h σ H s M _ (fun d m1 v1 H1 q1 s1 M1 r1 => k.rt d m1 v1 H1 q1 s1 M1 r1) W kx
theorem swx_mid {P' : Ps} (h : SWX K t R δ m P') (n : ∀ δ' m', P'.nx δ' m' → P.nx δ' m') (r : ∀ d m', P'.rt d m' → P.rt d m') (b : ∀ δ' m', P'.bk δ' m' → P.bk δ' m') (c : ∀ δ' m', P'.ct δ' m' → P.ct δ' m') : SWX K t R δ m P := fun σ H s M E k W kx =>
  h σ H s M E ⟨fun δ' m' σ' H' q => k.nx δ' m' σ' H' (n _ _ q), fun d m' v H' q => k.rt d m' v H' (r _ _ q), fun δ' m' σ' H' q => k.bk δ' m' σ' H' (b _ _ q), fun δ' m' σ' H' q => k.ct δ' m' σ' H' (c _ _ q)⟩ W kx
theorem swx_for {wi : TI} {g : TG} (h : IW K wi δ m fun ds m1 => ∃ Iv : Nat → List (Option D) → Mem → Prop, Iv 0 δ m1 ∧
      (∀ (j : Nat) (d : D) (δ' : List (Option D)) (m' : Mem), ds[j]? = some d → Iv j δ' m' → GW K g d δ' m' fun δ2 m2 => SWX K t R δ2 m2 { nx := Iv (j + 1), ct := Iv (j + 1), bk := P.nx, rt := P.rt }) ∧
      (∀ (δ' : List (Option D)) (m' : Mem), Iv ds.length δ' m' → P.nx δ' m')) : SWX K (fun W => tFor wi g (t W)) R δ m P := fun σ H s M E k W kx =>
  h σ H s M _ fun J H1 m1 ds ⟨Iv, h0, hs, hd⟩ s1 M1 fe => by
    refine ⟨fun i n σ' H' => n = ds.length - i ∧ i ≤ ds.length ∧ ∃ δ' m', Iv i δ' m' ∧ Sub (hide m1 H1) (hide m' H') ∧ Sl K (hide m' H') σ' δ' ∧ MemOk K m' H', ⟨ds.length, rfl, Nat.zero_le _, δ, m1, h0, Sub.refl _, s.mono s1, M1⟩, ?_⟩
    rintro i n σ' H' ⟨rfl, hi, δ', m', hI, s2, S2, M2⟩
    by_cases hlt : i < ds.length
    · refine .inr ⟨fe.go i m' H' s2 M2 hlt, fun σ3 H3 => ∃ δ3 m3, Iv (i + 1) δ3 m3 ∧ Sub (hide m1 H1) (hide m3 H3) ∧ Sl K (hide m3 H3) σ3 δ3 ∧ MemOk K m3 H3, fun σ3 H3 q => ⟨ds.length - (i + 1), by omega, rfl, hlt, q⟩, fun x H3 y => ?_⟩
      have hdi : ds[i]? = some ds[i] := List.getElem?_eq_getElem hlt
      obtain ⟨s3, M3, r3⟩ := fe.yld i m' H' x H3 _ s2 M2 hdi y
      refine hs i _ δ' m' hdi hI σ' H3 x (S2.mono s3) M3 r3 _ fun δ4 m4 σ4 H4 q4 s4 S4 M4 => ?_
      have s34 : Sub (hide m1 H1) (hide m4 H4) := s2.trans (s3.trans s4)
      refine q4 σ4 H4 S4 M4 _ ⟨?_, ?_, ?_, ?_⟩ W (kx.mono (s1.trans s34))
      · exact fun δ5 m5 σ5 H5 q5 s5 S5 M5 => ⟨δ5, m5, q5, s34.trans s5, S5, M5⟩
      · exact fun d m5 v H5 q5 s5 M5 r5 => k.rt d m5 v H5 q5 (s1.trans (s34.trans s5)) M5 r5
      · exact fun δ5 m5 σ5 H5 q5 s5 S5 M5 => k.nx δ5 m5 σ5 H5 q5 (s1.trans (s34.trans s5)) S5 M5
      · exact fun δ5 m5 σ5 H5 q5 s5 S5 M5 => ⟨δ5, m5, q5, s34.trans s5, S5, M5⟩
    · have e : i = ds.length := by omega
      subst e
      exact .inl ⟨fe.stop m' H' s2 M2, k.nx δ' m' σ' H' (hd δ' m' hI) (s1.trans s2) S2 M2⟩
theorem swx_forX {wi : TI} {g : TG} (h : IW K wi δ m fun ds m1 => ∃ (α : Type) (xs : List α) (f : α → D), ds = xs.map f ∧ ∃ Iv : Nat → List (Option D) → Mem → Prop, Iv 0 δ m1 ∧
      (∀ (j : Nat) (x : α) (δ' : List (Option D)) (m' : Mem), xs[j]? = some x → Iv j δ' m' → GW K g (f x) δ' m' fun δ2 m2 => SWX K t R δ2 m2 { nx := Iv (j + 1), ct := Iv (j + 1), bk := P.nx, rt := P.rt }) ∧
      ∀ (δ' : List (Option D)) (m' : Mem), Iv xs.length δ' m' → P.nx δ' m') : SWX K (fun W => tFor wi g (t W)) R δ m P :=
  swx_for fun σ H s M QQ kk => h σ H s M QQ fun J H1 m1 ds ⟨α, xs, f, ed, Iv, h0, hs, hd⟩ => kk J H1 m1 ds ⟨Iv, h0, fun j d δ' m' hj hI => by
    subst ed
    rw [List.getElem?_map] at hj
    cases c : xs[j]? with
    | none => rw [c] at hj; cases hj
    | some x =>
      rw [c] at hj
      cases hj
      exact hs j x δ' m' c hI, fun δ' m' hI => hd δ' m' (by rw [ed, List.length_map] at hI; exact hI)⟩
end
/-! ### defs that raise -/
section
variable {P : Program} {w : World} {K : PySem.W.Frag} {mg : Str → Option Value} {base : Heap} {k : Nat} {f : Addr} {ps : List Str} {Pf : FX}
def DefX (P : Program) (w : World) (K : PySem.W.Frag) (mg : Str → Option Value) (base : Heap) (k : Nat) (f : Addr) (ps : List Str) (Pf : FX) : Prop := ∃ fd, FnOk P w K mg base (CX P w) k f fd ps (spX K Pf) ∧ Binds K fd ps [] ∧ FdAt K f fd
theorem DefX.up {j : Nat} (h : DefX P w K mg base j f ps Pf) (l : j ≤ k) : DefX P w K mg base k f ps Pf := let ⟨fd, F, b⟩ := h; ⟨fd, F.mono l, b⟩
/-- where it raises nothing -/
theorem DefX.quiet (h : DefX P w K mg base k f ps Pf) : Def P w K mg base k f ps Pf.quiet := by
  obtain ⟨fd, F, b, e⟩ := h
  have up : ∀ {vs : List V} {H : Hp} {Q : VK} {E : XK}, spOf K Pf.quiet vs H Q E → spX K Pf vs H Q fun _ _ _ => False := fun {vs H Q E} ⟨ds, m, QS, r, M, p, q⟩ => ⟨ds, m, QS, _, r, M, p, q, fun _ _ _ _ _ z => z.elim⟩
  refine ⟨fd, ⟨fun vs H Q E q => F.len vs H Q _ (up q), fun A outer s H args us vs Q E hr he hb hv q => codeAny_mono (F.run A outer s H args us vs Q _ hr he hb hv (up q)) fun r s' c => ?_⟩, b, e⟩
  match r, c with
  | .error e, c => obtain ⟨_, _, _, _, _, _, _, _, _, _, _, _, z⟩ := c; exact z.elim
  | .ok (.ret u), c => exact c
  | .ok .next, c => exact c
  | .ok .brk, c => exact c
  | .ok .cont, c => exact c
theorem defOkX {x qual : Str} {st : Stmt} {N : List Str} (h : Has K x qual st f ps) (S : FnScope N ps (defScope st)) {t : WX → TS} (hlen : ∀ ds m Q R, Pf ds m Q R → ds.length = ps.length)
    (hd : ∀ (W : WX) (cdv : Value) (A : Around) (outer : List Env) (s : Shared) (H : Hp) (E : XK), Room k (A.deeper (envOfC qual (defScope st) s.heap.objs.size f cdv)) → Takes (cxOf (CX P w) P w K mg base N qual (defScope st) f cdv A outer s H E) W →
      PassesOwn (model P w) (cxOf (CX P w) P w K mg base N qual (defScope st) f cdv A outer s H E).A (cxOf (CX P w) P w K mg base N qual (defScope st) f cdv A outer s H E).env (cxOf (CX P w) P w K mg base N qual (defScope st) f cdv A outer s H E).xe →
      ∃ t', PSs (cxOf (CX P w) P w K mg base N qual (defScope st) f cdv A outer s H E) (defBody st) t' ∧ t' = t W)
    (hs : ∀ ds m (Q : D → Mem → Prop) (R : Addr → D → Mem → Prop), Pf ds m Q R → SWX K t (fun _ => R) (startD N.length ds) m { nx := fun _ m' => Q .non m', rt := Q }) : DefX P w K mg base (k + 1) f ps Pf := by
  obtain ⟨fd, F, b⟩ := h
  have F0 := F
  obtain ⟨oc, od, dV, kV, dc, pm, an, cd, ct, sl, rfl, hcd, lk⟩ := F.is
  refine ⟨_, fn_of lk hcd S (fun vs H Q E h => ?_) (fun A outer s H vs Q E hr h => ?_), b, Fnc.fdAt F0⟩
  · obtain ⟨ds, m, QS, R, r, _, p, _⟩ := h
    rw [r.length]
    exact hlen _ _ _ _ p
  · obtain ⟨t', der, et⟩ := hd (fun cls d _ H => E cls d H) _ A outer s H E hr (takes_of rfl rfl rfl rfl) (passes_of rfl)
    refine ⟨t', der, ?_⟩
    rw [et]
    obtain ⟨ds, m, QS, R, r, M, p, k, kx⟩ := h
    exact hs ds m QS R p _ _ (sl_start r) M _ ⟨fun δ' m' σ' H' q e s' M' => k .non m' .non H' q e M' .non, fun d m' v H' q e M' r' => k d m' v H' q e M' r', fun _ _ _ _ q => q.elim, fun _ _ _ _ q => q.elim⟩ _
      fun δ C x m' dd σ H' q e _ M' => kx C x m' dd H' q e M'
end
end DL

set_option Elab.async false
set_option linter.all false
set_option maxRecDepth 100000
set_option maxHeartbeats 1000000
set_option autoImplicit false
/-! Errors: calls that raise, raise itself, try. -/
namespace DL
open PySem PySem.Spec PyProof.Rows L2
section
variable {X : Cx} {CX : CXT} {k n : Nat} {f C : Addr} {fd : FuncData} {ps ks : List Str} {sp : Sp} {E : XK} {g : List Value → List Value → List Value} {gV : List V → List V → List V}
theorem go_fnN {pins : List (Addr × Obj)} {σ : L2.St} {H : Hp} {s : Shared} {Q : VK} {us ws : List Value} {vs zs : List V} (F : FnOk X.prog X.w X.K X.mg X.base CX k f fd ps sp) (room : Room k X.A) (kb : KBn X.K fd ps n ks g gV) (out : PassesAt CX X σ E)
    (J : Inv X pins σ H s) (rv : Vals vs us) (rz : Vals zs ws) (len1 : vs.length = n) (len2 : zs.length = ks.length) (wish : sp (gV vs zs) H Q E) : wpAny (model X.prog X.w) X.A (call (.ref f) us (ks.zip ws)) (EP X pins σ Q) X.xe s := by
  apply wpAny_call
  have bound := kb.to s us ws J.kIn (by rw [← rv.length, len1]) (by rw [← rz.length, len2])
  refine codeAny_mono (F.run X.A X.stack s H _ _ _ Q E room J.env0 bound (kb.rel rv rz) wish) fun res s2 c => ?_
  match res, c with
  | .error er, c => exact out pins H s er s2 J c
  | .ok (.ret u), c => exact J.after c
  | .ok .next, c => exact c.elim
  | .ok .brk, c => exact c.elim
  | .ok .cont, c => exact c.elim
end
section
variable {X : Cx} {k n : Nat} {f C : Addr} {fd : FuncData} {ps ks : List Str} {sp : Sp} {W : WX} {g : List Value → List Value → List Value} {gV : List V → List V → List V}
end
def tFunX (K : PySem.W.Frag) (n m : Nat) (idx : List Nat) (dd : List D) (sp : Sp) (t tk : TA) (W : WX) : TE := fun σ => tFunS K n m idx dd sp (WE W σ) t tk σ
def tMethX (K : PySem.W.Frag) (C : Addr) (nm : Str) (n m : Nat) (idx : List Nat) (dd : List D) (sp : Sp) (ta : TE) (t tk : TA) (W : WX) : TE := fun σ => tMethS K C nm n m idx dd sp (WE W σ) ta t tk σ
def tMakeX (K : PySem.W.Frag) (C : Addr) (n m : Nat) (idx : List Nat) (dd : List D) (sp : Sp) (t tk : TA) (W : WX) : TE := fun σ => tMakeS K C n m idx dd sp (WE W σ) t tk σ
section
variable {X : Cx} {k n : Nat} {f C : Addr} {ps ks : List Str} {Pf : FX} {W : WX} {x nm : Str} {p pos apos : Pos} {e o : Expr} {es : List Expr} {kws : List Keyword} {ta : TE} {t tk : TA} {idx : List Nat} {dd : List D} (K : PySem.W.Frag) (hK : X.K = K)
include hK
theorem kx_funX (D : DefX X.prog X.w K X.mg X.base k f ps Pf) (kb : KBS K f ps n ks idx dd) (hr : Room k X.A) (hg : Gl X x) (hm : X.mg x = some (.ref f)) (hk : PySem.W.keepIn K (.ref f) = true) (ha : PA X (e :: es) t) (hkw : PK X kws tk) (tkW : Takes X W)
    (hall : (backToKw pos (keywordEach kws X.env)).all (·.1.isSome) = true := by rfl) (hks : (backToKw pos (keywordEach kws X.env)).filterMap (·.1) = ks := by rfl)
    (hdb : (x == ("__debug__" : Str)) = false := by decide) (he : starEach (e :: es) X.env = (false, eval e X.env) :: starEach es X.env := by rfl)
    (hpl : ((backTo pos (starEach (e :: es) X.env)).any (·.1) || (backToKw pos (keywordEach kws X.env)).any (·.1.isNone)) = false := by rfl) :
    PE X (.Call (.Name x p) (e :: es) kws pos) (tFunX K n ks.length idx dd (spX K Pf) t tk W) := by
  subst hK
  obtain ⟨fd, F, _, fe⟩ := D
  obtain ⟨its, dvs, hd, kbn⟩ := kb.kbn fe
  refine ⟨fun pins s σ H Q I h => ?_⟩
  refine wpAny_Call_Name_kw (ld_glob I hg hm ?_ hdb)
  refine PySem.W.callWith_KW (h₀ := X.base) I.ok.mod.kin hk hall (thn (ha.run pos pins s σ H _ I h) fun us s1 ⟨vs, H1, I1, r, q⟩ => ?_) hpl he
  refine thn (hkw.run pos pins s1 σ H1 _ I1 q) fun ws s2 ⟨zs, H2, I2, rz, l1, l2, q2⟩ => ⟨I2.kIn, ?_⟩
  rw [hks]
  exact go_fnN F hr kbn (passAt tkW σ) I2 r rz l1 l2 (q2 dvs hd)
end
/-! ### o[i] that raises -/
def tSubX (C : Addr) (sp : Sp) (ta tb : TE) (W : WX) : TE := fun σ H Q => ta σ H fun x H1 => tb σ H1 fun y H2 => ∃ a dx fs, x = .ref a ∧ H2 a = some (.ins C dx fs) ∧ sp [.ref a, y] H2 Q (WE W σ)
section
variable {K : PySem.W.Frag} {δ : List (Option D)} {m : Mem} {Q : D → Mem → Prop} {R : XS} {ta te tb : TE} {t tk : TA} {Pf : FX} {n l : Nat} {idx : List Nat} {dd : List D} {C : Addr} {nm : Str}
/-- what the caller takes of the callee's errors -/
theorem wx_of {F : Hp} {W : WX} {σ : L2.St} (kx : MeetsX K R F W) {m2 : Mem} {H2 : Hp} (s2 : Sub F (hide m2 H2)) (S : Sl K (hide m2 H2) σ δ) : ∀ (C : Addr) (x : D) (m' : Mem) (dd : Addr) (H' : Hp), R δ C x m' → Sub (hide m2 H2) (hide (m' ++ [(dd, xc x)]) H') → MemOk K (m' ++ [(dd, xc x)]) H' → WE W σ (.ref C) (some dd) H' :=
  fun C x m' dd H' q e M' => kx δ C x m' dd σ H' q (s2.trans e) (S.mono e) M'
theorem ewx_fun (h : AW K t δ m fun ds m2 => AW K tk δ m2 fun es m3 => ds.length = n ∧ es.length = l ∧ Pf (pickN idx (ds ++ (es ++ dd))) m3 Q (R δ)) : EWX K (tFunX K n l idx dd (spX K Pf) t tk) R δ m Q := fun σ H s M QQ k W kx =>
  h σ H s M _ fun ds m2 vs H2 q2 s2 M2 r2 => q2 σ H2 (s.mono s2) M2 _ fun es m3 zs H3 ⟨l1, l2, q3⟩ s3 M3 r3 =>
    ⟨by rw [r2.length, l1], by rw [r3.length, l2], fun dvs hd => ⟨_, m3, Q, R δ, pick_rd ((r2.mono s3).append (r3.append (hd _))) idx, M3, q3, fun d m' v H' q s4 M' r => k d m' v H' q (s2.trans (s3.trans s4)) M' r, wx_of kx (s2.trans s3) (s.mono (s2.trans s3))⟩⟩
theorem ewx_meth (h : EW K ta δ m fun x m1 => ∃ (fs : List (Str × D)), (x = .ins C fs ∨ ∃ p, x = .adr p ∧ MAt m1 p (.ins C fs)) ∧ fs.lookup nm = none ∧ AW K t δ m1 fun ds m2 => AW K tk δ m2 fun es m3 => ds.length = n ∧ es.length = l ∧ Pf (pickN idx (x :: (ds ++ (es ++ dd)))) m3 Q (R δ)) : EWX K (tMethX K C nm n l idx dd (spX K Pf) ta t tk) R δ m Q := fun σ H s M QQ k W kx =>
  h σ H s M _ fun x m1 v H1 ⟨fs, ex, lk, q⟩ s1 M1 r1 => by
    have at_ : ∃ a dx xs, v = .ref a ∧ H1 a = some (.ins C dx xs) ∧ xs.lookup nm = none := by
      rcases ex with ex | ⟨p, ex, hm⟩
      · have r1' := r1
        rw [ex] at r1'
        obtain ⟨a, dx, xs, ev, e, nms, r⟩ := ins_at r1'
        exact ⟨a, dx, xs, ev, e, (lookup_rel (f := nm) nms r).2 lk⟩
      · have r1' := r1
        rw [ex] at r1'
        cases r1'
        obtain ⟨i, hi⟩ := hm
        obtain ⟨dx, xs, e, nms, r⟩ := M1.get hi
        exact ⟨p, dx, xs, rfl, e, (lookup_rel (f := nm) nms r).2 lk⟩
    obtain ⟨a, dx, xs, ev, e, nl⟩ := at_
    subst ev
    refine ⟨a, dx, xs, rfl, e, nl, q σ H1 (s.mono s1) M1 _ fun ds m2 vs H2 q2 s2 M2 r2 => q2 σ H2 (s.mono (s1.trans s2)) M2 _ fun es m3 zs H3 ⟨l1, l2, q3⟩ s3 M3 r3 => ?_⟩
    exact ⟨by rw [r2.length, l1], by rw [r3.length, l2], fun dvs hd => ⟨_, m3, Q, R δ, pick_rd (.cons (r1.mono (s2.trans s3)) ((r2.mono s3).append (r3.append (hd _)))) idx, M3, q3, fun d m' v H' q s4 M' r => k d m' v H' q (s1.trans (s2.trans (s3.trans s4))) M' r, wx_of kx (s1.trans (s2.trans s3)) (s.mono (s1.trans (s2.trans s3)))⟩⟩
theorem ewx_make (h : AW K t δ m fun ds m2 => AW K tk δ m2 fun es m3 => ds.length = n ∧ es.length = l ∧ ∀ p, Pf (pickN idx (.adr p :: (ds ++ (es ++ dd)))) (m3 ++ [(p, .ins C [])]) (fun d m4 => d = .non ∧ ∃ (m5 : Mem) (fs : List (Str × D)), m4 = m5 ++ [(p, .ins C fs)] ∧ Q (.ins C fs) m5) (R δ)) : EWX K (tMakeX K C n l idx dd (spX K Pf) t tk) R δ m Q := fun σ H s M QQ k W kx =>
  h σ H s M _ fun ds m2 vs H0 q2 s2 M2 r2 => q2 σ H0 (s.mono s2) M2 _ fun es m1 zs H1 ⟨l1, l2, q1⟩ s3 M1 r3 => by
    refine ⟨by rw [r2.length, l1], by rw [r3.length, l2], fun dvs hd => ?_⟩
    intro x dx hx hdx hne
    have hx2 : upd H1 dx (.own x) x = none := by rw [upd_ne (Ne.symm hne)]; exact hx
    obtain ⟨M2', s2'⟩ := M1.new (o := .own x) hdx
    have e : hide (m1 ++ [(x, Cell.ins C [])]) (upd (upd H1 dx (.own x)) x (.ins C dx [])) = hide m1 (upd H1 dx (.own x)) := hide_cell hx2
    have M3 : MemOk K (m1 ++ [(x, Cell.ins C [])]) (upd (upd H1 dx (.own x)) x (.ins C dx [])) := M2'.cell (c := .ins C []) hx2 ⟨dx, [], upd_same, rfl, .nil⟩
    have s5 : DL.Sub (hide m1 H1) (hide (m1 ++ [(x, Cell.ins C [])]) (upd (upd H1 dx (.own x)) x (.ins C dx []))) := by rw [e]; exact s2'
    refine ⟨_, m1 ++ [(x, .ins C [])], _, R δ, pick_rd (.cons (.adr x) (((r2.mono s3).mono s5).append ((r3.mono s5).append (hd _)))) idx, M3, q1 x, fun d m' v H' ⟨ed, m4, fs, em, q⟩ s4 M4 r4 => ?_, wx_of kx (s2.trans (s3.trans s5)) (s.mono (s2.trans (s3.trans s5)))⟩
    subst ed
    subst em
    cases r4
    obtain ⟨M5, sb, hp⟩ := M4.drop
    exact ⟨rfl, k _ m4 _ H' q (s2.trans (s3.trans (s5.trans (s4.trans sb)))) M5 (still_of (d := .ins C fs) (M4.at_ x (.ins C fs) (by simp)) rfl sb hp)⟩
theorem ewx_sub (h : EW K ta δ m fun x m1 => EW K tb δ m1 fun y m2 => ∃ fs, x = .ins C fs ∧ Pf [x, y] m2 Q (R δ)) : EWX K (tSubX C (spX K Pf) ta tb) R δ m Q := fun σ H s M QQ k W kx =>
  h σ H s M _ fun x m1 v1 H1 q1 s1 M1 r1 => q1 σ H1 (s.mono s1) M1 _ fun y m2 v2 H2 ⟨fs, ex, q⟩ s2 M2 r2 => by
    have r1' := r1.mono s2
    have r3 := r1'
    rw [ex] at r3
    obtain ⟨p, dx, xs, ev, e, nm, r⟩ := ins_at r3
    subst ev
    exact ⟨p, dx, xs, rfl, e, [x, y], m2, Q, R δ, .cons r1' (.cons r2 .nil), M2, q, fun d m' v H' q s4 M' r => k d m' v H' q ((s1.trans s2).trans s4) M' r, wx_of kx (s1.trans s2) (s.mono (s1.trans s2))⟩
end
/-! ### errors of the program: __init__(self, value) -/
def spI (K : PySem.W.Frag) : Sp := fun vs H Q _ => ∃ (a C : Addr) (y : V), vs = [.ref a, y] ∧ OexC K C ∧ PySem.W.findIn K (.ref C) "value" = some none ∧ H a = some (exo a C none) ∧
  ∀ dx, H dx = none → dx ≠ a → Q .non (upd (upd H dx (exd dx [("value", y)])) a (exo a C (some dx)))
def InitX (P : Program) (w : World) (K : PySem.W.Frag) (mg : Str → Option Value) (base : Heap) (k : Nat) (f : Addr) : Prop := ∃ fd, FnOk P w K mg base (CX P w) k f fd ["self", "value"] (spI K) ∧ Binds K fd ["self", "value"] []
theorem initX {P : Program} {w : World} {K : PySem.W.Frag} {mg : Str → Option Value} {base : Heap} {k : Nat} {f : Addr} {x qual : Str} {st : Stmt} (h : Has K x qual st f ["self", "value"]) (S : FnScope ["self", "value"] ["self", "value"] (defScope st))
    (hd : ∀ (cdv : Value) (A : Around) (outer : List Env) (s : Shared) (H : Hp) (E : XK), PSs (cxOf (CX P w) P w K mg base ["self", "value"] qual (defScope st) f cdv A outer s H E) (defBody st) (tOst K "value" (tVar 0) (tVar 1))) : InitX P w K mg base (k + 1) f := by
  obtain ⟨fd, F, b⟩ := h
  obtain ⟨oc, od, dV, kV, dc, pm, an, cd, ct, sl, rfl, hcd, lk⟩ := F.is
  refine ⟨_, fn_of lk hcd S (fun vs H Q E ⟨a, C, y, e, _⟩ => by rw [e]; rfl) (fun A outer s H vs Q E hr h => ⟨_, hd _ A outer s H E, ?_⟩), b⟩
  obtain ⟨a, C, y, rfl, T, no, ea, q⟩ := h
  refine ⟨y, rfl, V.ref a, rfl, a, C, rfl, T, no, .inl ⟨ea, fun dx hx hne => q dx hx hne⟩⟩
/-- what a class of errors must be -/
structure ErrC (K : PySem.W.Frag) (C fI : Addr) : Prop where
  o : OexC K C
  i : PySem.W.findIn K (.ref C) "__init__" = some (some (.ref fI))
  v : PySem.W.findIn K (.ref C) "value" = some none
  t : PySem.W.typeIn K (.ref fI) = some (.type "function")
/-- raise C(e) -/
def tRs (K : PySem.W.Frag) (C : Addr) (ta : TA) (W : WX) : TS := fun _ σ H => tMkO C (spI K) [] ta σ H fun cls d H' => W cls d σ H'
theorem kx_raise {X : Cx} {k : Nat} {C fI : Addr} {x : Str} {e : Expr} {ta : TA} {W : WX} {p pos pos2 : Pos} (K : PySem.W.Frag) (hK : X.K = K) (hc : X.calm = true) (tk : Takes X W) (c : ErrC K C fI) (F : InitX X.prog X.w K X.mg X.base k fI) (hr : Room (k + 1) X.A) (hg : Gl X x) (hm : X.mg x = some (.ref C)) (ha : PA X [e] ta)
    (hdb : (x == ("__debug__" : Str)) = false := by decide) (he : starEach [e] X.env = [(false, eval e X.env)] := by rfl) (hpl : (backTo pos (starEach ([] : List Expr) X.env)).any (·.1) = false := by rfl) :
    PS X (.Raise (some (.Call (.Name x p) [e] [] pos)) none pos2) (tRs K C ta W) := by
  subst hK
  obtain ⟨fd, F, b⟩ := F
  exact ps_raise hc tk (pmk_oex (p := p) (dvs := []) (ds := []) c.o c.i c.t F hr b .nil (fun _ _ _ _ _ _ _ z => by obtain ⟨_, _, _, _, _, _, _, _, _, _, _, _, y⟩ := z; exact y.elim) hg hm ha hdb he hpl)
section
variable {K : PySem.W.Frag} {δ : List (Option D)} {m : Mem} {P : Ps} {R : XS} {ta : TA}
theorem swx_raise {C fI : Addr} (c : ErrC K C fI) (h : AW K ta δ m fun xs m1 => ∃ x, xs = [x] ∧ R δ C x m1) : SWX K (tRs K C ta) R δ m P := fun σ H s M E k W kx =>
  h σ H s M _ fun xs m1 vs H1 ⟨x, ex, q⟩ s1 M1 r1 => by
    subst ex
    cases r1 with
    | @cons v vs' _ _ r1 r2 =>
      cases r2
      refine ⟨by simp, fun a ha => ⟨a, C, v, rfl, c.o, c.v, upd_same, fun dx hx hne => ⟨rfl, dx, [("value", v)], upd_same, ?_, ?_, ?_⟩⟩⟩
      · rw [upd_ne hne, upd_same]
      · rwa [upd_ne hne] at hx
      · have hx1 : H1 dx = none := by rwa [upd_ne hne] at hx
        have eH : upd (del (upd (upd (upd H1 a (exo a C none)) dx (exd dx [("value", v)])) a (exo a C (some dx))) a) dx (.xd [("value", v)]) = upd H1 dx (.xd [("value", v)]) := by
          funext b
          by_cases hb : b = dx
          · rw [hb, upd_same, upd_same]
          · rw [upd_ne hb, upd_ne hb]
            by_cases ha2 : b = a
            · rw [ha2, del_same, ha]
            · rw [del_ne ha2, upd_ne ha2, upd_ne hb, upd_ne ha2]
        rw [eH]
        have e : hide (m1 ++ [(dx, xc x)]) (upd H1 dx (.xd [("value", v)])) = hide m1 H1 := hide_cell hx1
        exact kx δ C x m1 dx σ _ q (by rw [e]; exact s1) (by rw [e]; exact s.mono s1) (M1.cell (c := xc x) hx1 ⟨_, upd_same, rfl, .cons r1 .nil⟩)
end
section
variable {K : PySem.W.Frag} {δ : List (Option D)} {m : Mem} {P : Ps} {R : XS} {tb : WX → TS} {ts : Addr → Value → Option Addr → TS} {i : Nat} {c : Value}
end
section
variable {K : PySem.W.Frag} {δ : List (Option D)} {m : Mem} {Q : D → Mem → Prop} {te : TE}
end
end DL

set_option Elab.async false
set_option linter.all false
set_option maxRecDepth 100000
set_option maxHeartbeats 4000000
set_option autoImplicit false
/-! isinstance of a caught error that has its dict. -/
namespace PySem.W
open PySem PySem.Spec PySem.Calls PyProof.Rows
section
variable {prog : Program} {w : World} {A : Around} {E : Value → Shared → Prop} {K : Frag} {x D : Addr} {ox od : Obj}
end
end PySem.W
namespace DL
open PySem PySem.Spec PyProof.Rows L2
section
variable {K : PySem.W.Frag} {δ : List (Option D)} {m : Mem} {Q : D → Mem → Prop}
end
end DL
namespace DL
open PySem PySem.Spec PyProof.Rows L2
section
variable {K : PySem.W.Frag} {D C fI fJ : Addr} {b : Bool}
theorem ErrC.self (c : ErrC K C fI) (h : PySem.W.subIn K (.ref C) (.ref C) = some b) : b = true := by
  obtain ⟨nm, q, N, bs, bm, sn, sub, ab, col, dd, k0, k1, k2, k3, k5, hC, _⟩ := c.o.cls
  have e : PySem.W.clsIn K C = some { name := nm, bases := bs, mro := .ref C :: bm, ns := N, qualname := q, hasDict := true, slotNames := sn, subclasses := sub, abstract := ab, collection := col, hasDel := false } := by unfold PySem.W.clsIn; rw [hC] <;> rfl
  have h2 : PySem.W.mroIn K C (.ref C) = some b := h
  unfold PySem.W.mroIn at h2
  rw [e] at h2
  simpa using h2.symm
theorem ErrC.kit (c : ErrC K D fI) (d : ErrC K C fJ) (x : ExcC K C) (h : PySem.W.subIn K (.ref D) (.ref C) = some b) : PySem.W.kitOne K (.ref D) (.ref C) = some b := by
  unfold PySem.W.kitOne
  by_cases e : D = C
  · subst e
    rw [c.self h]
    simp
  · rw [if_neg (by simpa using e)]
    obtain ⟨cd, hc, _⟩ := PySem.W.any_some x.hd
    show (if ((PySem.W.clsIn K C).isSome && PySem.W.typeIn K (.ref C) == some (.type "type")) = true then PySem.W.subIn K (.ref D) (.ref C) else none) = some b
    rw [hc, d.o.tyC, if_pos (by rfl)]
    exact h
end
end DL

set_option Elab.async false
set_option linter.all false
set_option maxRecDepth 100000
set_option maxHeartbeats 1000000
set_option autoImplicit false
/-! repr of None; texts told backwards; a sum of lists as a cell; cells told in another sequence. -/
namespace DL
open PySem PySem.Spec PyProof.Rows L2
def rReprP : List V → Hp → VK → Prop := fun xs H Q => (xs = [.non] ∧ Q (.str "None") H) ∨ (∃ b : Bool, xs = [.bl b] ∧ Q (.str (if b then "True" else "False")) H) ∨ ∃ i : Int, xs = [.int i] ∧ i.natAbs.log2 < 1920 ∧ Q (.str (toString i)) H
def rReprU (K : PySem.W.Frag) : List V → Hp → VK → Prop := fun xs H Q => rRepr K xs H Q ∨ rReprP xs H Q
theorem kx_reprU {X : Cx} (K : PySem.W.Frag) (hK : X.K = K) (hg : X.A.guards = some []) (hu : X.A.units + 66 < cLine) : CallR X (.builtin "repr") (rReprU K) := by
  intro pins s σ H xs us Q I rv h
  rcases h with h | ⟨rfl, q⟩ | ⟨b, rfl, q⟩ | ⟨i, rfl, hi, q⟩
  · exact kx_repr K hK hg hu pins s σ H xs us Q I rv h
  · cases rv with
    | cons r0 r1 =>
      cases r1
      cases r0
      exact PySem.P.repr_of_none ⟨.str "None", H, I.tok _, ⟨_, rfl⟩, q⟩
  · cases rv with
    | cons r0 r1 =>
      cases r1
      cases r0
      exact PySem.P.repr_of_bool ⟨.str _, H, I.tok _, ⟨_, rfl⟩, q⟩
  · cases rv with
    | cons r0 r1 =>
      cases r1
      obtain ⟨t, rfl⟩ := r0
      exact PySem.P.repr_of_int hi ⟨.str _, H, I.tok _, ⟨_, rfl⟩, q⟩
section
variable {K : PySem.W.Frag} {δ : List (Option D)} {m m' : Mem} {Q : D → Mem → Prop} {te : TE} {t : TS} {P : Ps}
theorem cw_showU {x : D} {d : PyData} {n B : Nat} (h : Res K m x d) (hx : (∃ xs, x = .lst xs) ∨ (∃ xs, x = .tup xs) ∨ ∃ p, x = .adr p) (s : Shw n B d) (hn : n ≤ 64) (hB : B ≤ sizeLine) (q : Q (.str d.shown) m) : CW K (rReprU K) [x] m Q := cw_or1 (cw_show h hx s hn hB q)
end
end DL

set_option Elab.async false
set_option linter.all false
set_option maxRecDepth 100000
set_option maxHeartbeats 1000000
set_option autoImplicit false
/-! From the data promise of a law to its row, where repr is asked of no guard. -/
namespace DL
open PySem PySem.Spec PyProof.Rows L2
section
variable {K : PySem.W.Frag} {x qual : Str} {st : Stmt} {f T : Addr} {ps : List Str} {oc kV dc pm cd ct oT : Value} {od an dT : Option Addr} {sl sT : Array (Option Value)} {its : Array Value} {nT : Nat}
theorem has_mk (l : K.lookup f = some ⟨oc, od, .func (PySem.W.fnOf x qual (defArgs st) (defBody st) (defScope st) .none kV dc pm an cd ct), sl⟩) (c : PySem.W.codeIn K cd qual = true)
    (b : ∀ (kV dc pm : Value) (an : Option Addr) (cd ct : Value) (us : List Value), us.length = ps.length → bindArgs (PySem.W.fnOf x qual (defArgs st) (defBody st) (defScope st) .none kV dc pm an cd ct) ⟨us, []⟩ = pure (ps.zip us)) : Has K x qual st f ps :=
  ⟨_, ⟨oc, od, .none, kV, dc, pm, an, cd, ct, sl, rfl, c, l⟩, .all (b kV dc pm an cd ct)⟩
theorem has_mkD (l : K.lookup f = some ⟨oc, od, .func (PySem.W.fnOf x qual (defArgs st) (defBody st) (defScope st) (.ref T) kV dc pm an cd ct), sl⟩) (c : PySem.W.codeIn K cd qual = true) (lT : K.lookup T = some ⟨oT, dT, .seq its nT, sT⟩)
    (b : ∀ (kV dc pm : Value) (an : Option Addr) (cd ct : Value) (us : List Value), us.length = ps.length → ∃ k, bindArgs (PySem.W.fnOf x qual (defArgs st) (defBody st) (defScope st) (.ref T) kV dc pm an cd ct) ⟨us, []⟩ = seqItems? (.ref T) >>= k ∧ k (some its) = pure (ps.zip us)) : Has K x qual st f ps := by
  refine ⟨_, ⟨oc, od, .ref T, kV, dc, pm, an, cd, ct, sl, rfl, c, l⟩, fun s us kin hl => ?_⟩
  rw [List.append_nil] at hl ⊢
  obtain ⟨k, e1, e2⟩ := b kV dc pm an cd ct us hl
  refine BindsTo.of_looks fun M => ?_
  rw [e1]
  exact looks_items kin lT rfl (.of_pure e2)
theorem law_mk {y : Str} (l : K.lookup f = some ⟨oc, od, .func (PySem.W.fnOf x qual (defArgs st) (defBody st) (defScope st) .none kV dc pm an cd ct), sl⟩)
    (b : ∀ v : Value, bindArgs (PySem.W.fnOf x qual (defArgs st) (defBody st) (defScope st) .none kV dc pm an cd ct) ⟨[v], []⟩ = pure [(y, v)]) : ∀ fd, FdAt K f fd → ∀ (s : Shared) (v : Value), BindsTo s fd ⟨[v], []⟩ [(y, v)] := fun fd e s v => by
  rw [← fdAt_inj ⟨oc, od, sl, l⟩ e]
  exact .of_eq (b v)
end
def startHp (K : PySem.W.Frag) (a : Addr) (vs : List Value) (ns : List Int) : Hp := fun b => match K.lookup a with
  | some _ => none
  | none => if b = a then some (.frz { cls := .type "list", data := .seq vs.toArray } (.lst (ns.map V.int))) else none
section
variable {K : PySem.W.Frag} {a : Addr} {vs : List Value} {ns : List Int}
theorem startHp_some {b : Addr} {u : HO} (h : startHp K a vs ns b = some u) : K.lookup a = none ∧ b = a ∧ u = .frz { cls := .type "list", data := .seq vs.toArray } (.lst (ns.map V.int)) := by
  unfold startHp at h
  cases c : K.lookup a with
  | some o => rw [c] at h; cases h
  | none =>
    rw [c] at h
    by_cases e : b = a
    · rw [if_pos e] at h
      cases h
      exact ⟨rfl, e, rfl⟩
    · rw [if_neg e] at h
      cases h
theorem startHp_sq {h : Heap} (kin : K.In h) (obj : h.get? a = some { cls := .type "list", data := .seq vs.toArray }) (are : IntsAre vs ns) (few : ns.length ≤ sizeLine) : SqL K (startHp K a vs ns) a (ns.map V.int) := by
  have n2 := are.length
  have rel := vals_ints are
  cases c : K.lookup a with
  | some o =>
    have e := kin a o c
    rw [obj] at e
    cases e
    refine Or.inr ⟨_, vs.toArray, _, c, rfl, rfl, rfl, ?_, ?_⟩
    · rw [List.size_toArray, n2]; exact few
    · simpa using rel
  | none =>
    refine Or.inl (Or.inr ⟨{ cls := .type "list", data := .seq vs.toArray }, ?_⟩)
    unfold startHp
    rw [c]
    exact if_pos rfl
theorem code_of {P : Program} {w : World} {mg mb : Str → Option Value} {k : Nat} {fa : Addr} {fd : FuncData} {x : Str} {Pf : FS} {s : Shared}
    (kin : K.In s.heap) (top : s.heap.Ns mainGlobals mg) (blt : s.heap.Ns builtinsNs mb) (boot : ∀ x : Str, x ≠ "__name__" → mb x = bootBuiltins x) (free : s.heap.NoLimit) (calm : s.gens = #[])
    (obj : s.heap.get? a = some { cls := .type "list", data := .seq vs.toArray }) (are : IntsAre vs ns) (few : ns.length ≤ sizeLine) (room : Room k callerA)
    (F : ∀ base : Heap, K.In base → base.Ns mainGlobals mg → FnG P w K mg base k fa fd [x] (spOf K Pf)) (bind : ∀ (s : Shared) (u : Value), BindsTo s fd ⟨[u], []⟩ [(x, u)])
    (keeps : Pf [.scr ns] [] fun d _ => d = .bl true) :
    codeAny (model P w) callerA (.call (.ref fa) ⟨[.ref a], []⟩) (fun r s' => r = .ok (.ret (.bool true)) ∧ OldK s.heap s'.heap ∧ s'.os = s.os ∧ AllBare s'.gens) s := by
  have sq := startHp_sq kin obj are few
  have rel := vals_ints are
  generalize hG : startHp K a vs ns = G at sq
  have tracked : ∀ {b : Addr} {u : HO}, G b = some u → K.lookup a = none ∧ b = a ∧ u = .frz { cls := .type "list", data := .seq vs.toArray } (.lst (ns.map V.int)) := fun {b u} q => startHp_some (hG ▸ q)
  have hok : HOk P w G s.heap := fun b u q => by
    obtain ⟨_, rfl, rfl⟩ := tracked q
    refine ⟨obj, ?_, vs, _, rel, obj⟩
    rw [List.length_map]
    exact few
  have still : ∀ {b : Addr} {o : Obj} {es : Array DictEntry} {ep : Nat}, s.heap.get? b = some o → o.data = .dict es ep → G b = none := fun {b o es ep} e d => by
    cases c : G b with
    | none => rfl
    | some u =>
      obtain ⟨_, rfl, _⟩ := tracked c
      rw [obj] at e
      cases e
      exact absurd d (fun z => by cases z)
  have names : ∀ {b : Addr} {mm : Str → Option Value}, s.heap.Ns b mm → (hidT s.heap G).Ns b mm := fun {b mm} h => by
    obtain ⟨o, es, ep, e, d, r⟩ := h
    exact ⟨o, es, ep, hidT_get e (still e d), d, r⟩
  have kin2 : K.In (hidT s.heap G) := fun b o e => by
    refine hidT_get (kin b o e) ?_
    cases c : G b with
    | none => rfl
    | some u =>
      obtain ⟨n, rfl, _⟩ := tracked c
      rw [n] at e
      cases e
  obtain ⟨mc, l1, l2⟩ := free
  have modl : Mod K mg (hidT s.heap G) := ⟨kin2, names top, ⟨mb, names blt, boot⟩, mc, names l1, l2⟩
  have env : Env0 P w K mg (hidT s.heap G) callerA [] s G := ⟨rfl, modl, fun b o e => of_hidT e, Nat.le_of_eq (hidT_size _ _), trivial, fun b hb => (List.not_mem_nil hb).elim, hok, .of_eq calm⟩
  have M0 : MemOk K ([] : Mem) G := ⟨List.nodup_nil, fun p c hc => (List.not_mem_nil hc).elim⟩
  have e0 : hide ([] : Mem) G = G := by
    funext b
    exact hide_out (by simp)
  have wish : spOf K Pf [.ref a] G (fun v _ => v = .bl true) E0 := by
    refine ⟨[.scr ns], [], fun d _ => d = .bl true, ?_, M0, keeps, fun d m' v H' q _ _ r => ?_⟩
    · rw [e0]
      exact .cons (.scr sq) .nil
    · subst q
      cases r
      rfl
  have run := (F _ kin2 (names top)).go callerA [] s G ⟨[.ref a], []⟩ [.ref a] [.ref a] (fun v _ => v = .bl true) rfl room env (bind s (.ref a)) (.cons rfl .nil) wish
  refine codeAny_mono run fun r s' h => ?_
  match r, h with
  | .error e, h => exact False.elim h
  | .ok .next, h => exact False.elim h
  | .ok .brk, h => exact False.elim h
  | .ok .cont, h => exact False.elim h
  | .ok (.ret u), ⟨v, H', os, bare, un, hok', ru, qv⟩ =>
    have qv' : v = .bl true := qv
    subst qv'
    have ru' : u = Value.bool true := ru
    subst ru'
    refine ⟨rfl, OldK.of_keep fun b o e => ?_, os, bare⟩
    cases c : G b with
    | none => exact un.keep b o e c (fun z => (List.not_mem_nil (show b ∈ ([] : List Addr) from z)).elim) (List.not_mem_nil)
    | some u =>
      obtain ⟨_, rfl, rfl⟩ := tracked c
      have z := un.frzs b _ _ c
      have e2 := (hok' b _ z).1
      rw [obj] at e
      cases e
      exact e2
end
theorem walk_at_law {l : PySem.W.OpenLaw} {n k : Nat} {q : Program} {loose : List Str} {XP : (Str → Option Value) → Heap → Prop} {YP : World → Heap → Prop} {d : DefRec} {K : Params → PySem.W.Frag} {Pf : FS} {x : Str}
    (most : l.most = some n) (small : n ≤ sizeLine) (nodef : d.params.defaults = []) (room : Room k callerA) (written : ∀ (w : World) (h : Heap), YP w h → (K w.params).In h)
    (F : ∀ (w : World) (mg : Str → Option Value) (fa : Addr) (h : Heap), (K w.params).In h → h.Ns mainGlobals mg → mg d.name = some (.ref fa) →
      ∃ fd : FuncData, (∀ (s : Shared) (u : Value), BindsTo s fd ⟨[u], []⟩ [(x, u)]) ∧ ∀ base : Heap, (K w.params).In base → base.Ns mainGlobals mg → FnG l.prog w (K w.params) mg base k fa fd [x] (spOf (K w.params) Pf))
    (keeps : ∀ ns : List Int, ns.length ≤ n → (∀ z ∈ ns, Builtin.Int.intBits z ≤ 1048576) → Pf [.scr ns] [] fun d _ => d = .bl true) : PySem.W.WalkO q loose XP YP l.row.toRowW d [] (fun f vs => PySem.call f vs) := by
  apply Att.attach_callB most nodef
  intro w s0 s mg mb fa o pm cd doc a vs ns ground y _ _ _ named obj are few bits calm
  obtain ⟨fd, bind, promise⟩ := F w mg fa s.heap (written w _ y) ground.T.g named
  exact code_of (written w _ y) ground.T.g ground.T.b ground.T.builtins ground.T.nolimit calm obj are (Nat.le_trans few small) room promise bind (keeps ns few bits)
end DL

set_option Elab.async false
set_option linter.all false
set_option maxRecDepth 100000
set_option maxHeartbeats 1000000
set_option autoImplicit false
/-! sorted(xs, key = lambda x: ..): xs a list of ints, the key an int that is told without a trace. -/
namespace DL
open PySem PySem.Spec PyProof.Rows L2 LamX SrtO

/-! ### the lambda: one parameter, captured names -/
structure LamP (sc scope : Scope) (N : List Str) (j : Nat) (x : Str) : Prop where
  kind : scope.kind = .function
  co : scope.isCoroutine = false
  gen : scope.isGenerator = false
  nm : N[j]? = some x
  lo : scope.names.lookup x = some .local
  own : ∀ y ∈ scope.names, y.2 ≠ .cell ∧ (y.2 = .local → y.1 = x)
  free : ∀ y ∈ scope.names, y.2 = .free → sc.names.lookup y.1 = some .cell ∨ sc.names.lookup y.1 = some .free
  nd : N.Nodup
section
variable {X : Cx} {pins : List (Addr × Obj)} {σ : L2.St} {H : Hp} {s : Shared} {scope : Scope} {j : Nat} {x : Str}
theorem LamP.has (L : LamP X.env.scope scope X.N j x) (ok : X.Ok) : ∀ y ∈ scope.names, y.2 = .free → ∃ c, X.env.cells.lookup y.1 = some c := fun y hy e => by
  rcases L.free y hy e with k | k
  · exact ok.has _ (.inl k)
  · exact ok.has _ (.inr k)
end

/-- another order that agrees on the items -/
theorem Stb.on {α : Type} {lt lt' : α → α → Bool} (O' : Swo lt') {l m : List α} (e : ∀ a ∈ m, ∀ b ∈ m, lt a b = lt' a b) (h : Stb lt l m) : Stb lt' l m := by
  refine ⟨h.perm, fun x => ?_⟩
  have hm : ∀ a, a ∈ l ↔ a ∈ m := fun a => h.perm.mem_iff
  by_cases ex : ∃ u, u ∈ m ∧ eqv lt' x u = true
  · obtain ⟨u, hu, he⟩ := ex
    have e1 : eqv lt' x = eqv lt' u := funext fun v => eqv_trans O' he
    have e2 : ∀ k : List α, (∀ a ∈ k, a ∈ m) → k.filter (eqv lt' u) = k.filter (eqv lt u) := fun k hk => List.filter_congr fun a ha => by
      unfold eqv
      rw [e u hu a (hk a ha), e a (hk a ha) u hu]
    rw [e1, e2 l (fun a ha => (hm a).mp ha), e2 m (fun a ha => ha), h.cls u]
  · have no : ∀ k : List α, (∀ a ∈ k, a ∈ m) → k.filter (eqv lt' x) = [] := fun k hk => List.filter_eq_nil_iff.mpr fun u hu q => ex ⟨u, hk u hu, q⟩
    rw [no l (fun a ha => (hm a).mp ha), no m (fun a ha => ha)]
section
variable {X : Cx} {pins : List (Addr × Obj)} {σ : L2.St} {H : Hp} {s : Shared} {scope : Scope} {j : Nat} {x : Str}
/-- all but what stands at P stays -/
def ExtP (P : Addr) (H H' : Hp) : Prop := ∀ b o, b ≠ P → H b = some o → H' b = some o
/-- the table at P before (H) and after (H'): its code objects are old ones or were not there -/
def TabTo (P : Addr) (q : Str) (H H' : Hp) : Prop := ∃ ps ps' : Array Value, H P = some (.tbl ps) ∧ H' P = some (.tbl ps') ∧ TriplesOk ps'.toList ∧
  ∀ (pos : Pos) (cv : Value), codeAmong pos ps'.toList = some cv → ∃ c, cv = .ref c ∧ H' c = some (CodeO c q) ∧ (H c = none ∨ ∃ pos', codeAmong pos' ps.toList = some (.ref c))
end
end DL

set_option Elab.async false
set_option linter.all false
set_option maxRecDepth 100000
set_option maxHeartbeats 1000000
set_option autoImplicit false
/-! d.get; sorted by what a dict tells of the names at the indexes. -/
namespace DL
open PySem PySem.Spec PyProof.Rows L2 LamX SrtO
section
variable {K : PySem.W.Frag} {m : Mem} {H H2 : Hp} {P : Addr} {q : Str}
theorem MemOk.tab (M : MemOk K m H) (hP : MAt m P (.tbl q)) (e : ExtP P H H2) (t : TabTo P q H H2) : MemOk K m H2 ∧ Sub (hide m H) (hide m H2) := by
  obtain ⟨i, hP⟩ := hP
  have inP : P ∈ m.map Prod.fst := List.mem_map.mpr ⟨_, List.mem_of_getElem? hP, rfl⟩
  have sb : Sub (hide m H) (hide m H2) := fun a o ha => by
    by_cases hm : a ∈ m.map Prod.fst
    · rw [hide_in hm] at ha
      cases ha
    · rw [hide_out hm] at ha ⊢
      exact e a o (fun z => hm (z ▸ inP)) ha
  refine ⟨⟨M.nd, fun p c hm => ?_⟩, sb⟩
  by_cases hp : p = P
  · subst hp
    have ec : c = .tbl q := by
      obtain ⟨j, hj⟩ := List.getElem?_of_mem hm
      have l1 : j < (m.map Prod.fst).length := by rw [List.length_map]; exact (List.getElem?_eq_some_iff.mp hj).1
      have eij : j = i := (List.getElem?_inj l1 M.nd).mp (by rw [List.getElem?_map, List.getElem?_map, hP, hj]; rfl)
      rw [eij, hP] at hj
      cases hj
      rfl
    subst ec
    obtain ⟨ps, ps', t1, t2, t3, t4⟩ := t
    obtain ⟨ps0, h1, _, h3⟩ := M.get hP
    rw [t1] at h1
    cases h1
    refine ⟨ps', t2, t3, fun pos cv hc => ?_⟩
    obtain ⟨c, e1, e2, e3⟩ := t4 pos cv hc
    refine ⟨c, e1, ?_⟩
    rcases e3 with z | ⟨pos', z⟩
    · rw [hide_out (M.fresh z)]
      exact e2
    · obtain ⟨c0, f1, f2⟩ := h3 pos' _ z
      cases f1
      exact sb _ _ f2
  · have h := M.at_ p c hm
    obtain ⟨o, ho⟩ := h.some
    exact h.mono sb ((e p o hp ho).trans ho.symm)
end
section
variable {K : PySem.W.Frag} {δ : List (Option D)} {m : Mem} {Q : D → Mem → Prop} {td ty tx te : TE}
/-- a dict, as data or as a cell -/
def DctIn (m : Mem) (x : D) (kvs : List (Key × D)) : Prop := x = .dic kvs ∨ ∃ p, x = .adr p ∧ MAt m p (.dic kvs)
theorem DctIn.of {kvs : List (Key × D)} : DctIn m (.dic kvs) kvs := .inl rfl
theorem DctIn.at_ {p : Addr} {kvs : List (Key × D)} (h : MAt m p (.dic kvs)) : DctIn m (.adr p) kvs := .inr ⟨p, rfl, h⟩
theorem DctIn.app {r : Mem} {x : D} {kvs : List (Key × D)} (h : DctIn m x kvs) : DctIn (m ++ r) x kvs := h.imp id fun ⟨p, e, h⟩ => ⟨p, e, h.app⟩
theorem DctIn.cons {c : Addr × Cell} {x : D} {kvs : List (Key × D)} (h : DctIn m x kvs) : DctIn (c :: m) x kvs := h.imp id fun ⟨p, e, h⟩ => ⟨p, e, h.cons⟩
theorem DctIn.get {x : D} {kvs : List (Key × D)} {H : Hp} {v : V} (h : DctIn m x kvs) (M : MemOk K m H) (r : Rd K (hide m H) v x) : ∃ (a : Addr) (xs : List (Key × V)), v = .ref a ∧ H a = some (.dK xs) ∧ xs.map Prod.fst = kvs.map Prod.fst ∧ RdL K (hide m H) (xs.map Prod.snd) (kvs.map Prod.snd) := by
  rcases h with rfl | ⟨p, rfl, i, hm⟩
  · exact dic_at r
  · cases r
    obtain ⟨xs, h1, h2, h3⟩ := dicM_at M hm
    exact ⟨p, xs, rfl, h1, h2, h3⟩
theorem dic_val {H : Hp} {kvs : List (Key × D)} {xs : List (Key × V)} (k : Key) {z : V} {d : D} (e : xs.map Prod.fst = kvs.map Prod.fst) (r : RdL K (hide m H) (xs.map Prod.snd) (kvs.map Prod.snd)) (rz : Rd K (hide m H) z d) : Rd K (hide m H) ((L2.valV xs k).getD z) ((valD kvs k).getD d) := by
  obtain ⟨h1, h2⟩ := RdL.valV k e r
  cases c : valD kvs k with
  | none =>
    rw [h2 c]
    exact rz
  | some y =>
    obtain ⟨v, e1, r1⟩ := h1 y c
    rw [e1]
    exact r1
/-- d.get(k) -/
theorem ew_dget1 (h : EW K td δ m fun x m1 => ∃ kvs, DctIn m1 x kvs ∧ EW K ty δ m1 fun y m2 => ∃ (kvs : List (Key × D)) (k : Key), DctIn m2 x kvs ∧ y = kD k ∧ Q ((valD kvs k).getD .non) m2) : EW K (tDGet1 td ty) δ m Q := fun σ H s M QQ k =>
  h σ H s M _ fun x m1 v H1 ⟨kvs, hd, q1⟩ s1 M1 r1 => by
    obtain ⟨a, xs, rfl, ha, _⟩ := hd.get M1 r1
    refine ⟨a, rfl, .inl ⟨xs, .inl ha⟩, ?_⟩
    refine q1 σ H1 (s.mono s1) M1 _ fun y m2 w H2 ⟨kvs, kk, d2, ey, q2⟩ s2 M2 r2 => ?_
    subst ey
    obtain ⟨a2, xs2, e2, h2, f2, g2⟩ := d2.get M2 (r1.mono s2)
    cases e2
    refine ⟨L2.valV xs2 kk, .inl ⟨xs2, kk, .inl h2, kD_v r2, rfl⟩, ?_⟩
    exact k _ m2 _ H2 q2 (s1.trans s2) M2 (dic_val kk f2 g2 .non)
/-- d.get(k, x) -/
theorem ew_dget2 (h : EW K td δ m fun x m1 => ∃ kvs, DctIn m1 x kvs ∧ EW K ty δ m1 fun y m2 => EW K tx δ m2 fun z m3 => ∃ (kvs : List (Key × D)) (k : Key), DctIn m3 x kvs ∧ y = kD k ∧ Q ((valD kvs k).getD z) m3) : EW K (tDGet2 td ty tx) δ m Q := fun σ H s M QQ k =>
  h σ H s M _ fun x m1 v H1 ⟨kvs, hd, q1⟩ s1 M1 r1 => by
    obtain ⟨a, xs, rfl, ha, _⟩ := hd.get M1 r1
    refine ⟨a, rfl, .inl ⟨xs, .inl ha⟩, ?_⟩
    refine q1 σ H1 (s.mono s1) M1 _ fun y m2 w H2 q2 s2 M2 r2 => ?_
    refine (show EW K tx δ m2 _ from q2) σ H2 ((s.mono s1).mono s2) M2 _ fun z m3 u H3 ⟨kvs, kk, d2, ey, q3⟩ s3 M3 r3 => ?_
    subst ey
    obtain ⟨a2, xs2, e2, h2, f2, g2⟩ := d2.get M3 (r1.mono (s2.trans s3))
    cases e2
    refine ⟨L2.valV xs2 kk, .inl ⟨xs2, kk, .inl h2, kD_v (r2.mono s3), rfl⟩, ?_⟩
    exact k _ m3 _ H3 q3 (s1.trans (s2.trans s3)) M3 (dic_val kk f2 g2 r3)
/-! ### reversed lists, ranges; None in a set of names -/
theorem ew_revQ (h : EW K te δ m fun x m1 => ∃ ds, SeqIn m1 x ds ∧ Q (.lst ds.reverse) m1) : EW K (tRevL K te) δ m Q := fun σ H s M QQ k =>
  h σ H s M _ fun x m1 v H1 ⟨ds, ex, q⟩ s1 M1 r1 => by
    obtain ⟨p, xs, rfl, e, r⟩ := ex.get M1 r1
    refine ⟨p, xs, rfl, SqL.of e, fun z hz => ?_⟩
    obtain ⟨M2, s2, r3⟩ := new_lst M1 r.reverse hz
    exact k _ m1 _ _ q (s1.trans s2) M2 r3
end
section
variable {Pg : Program} {w : World} {K : PySem.W.Frag} {m : Mem} {Q : D → Mem → Prop} {p : Addr}
end
/-! ### a list, as data or as a cell, or a tuple -/
def SeqT (m : Mem) (x : D) (ds : List D) : Prop := SeqIn m x ds ∨ x = .tup ds
theorem SeqT.app {m r : Mem} {x : D} {ds : List D} (h : SeqT m x ds) : SeqT (m ++ r) x ds := h.imp SeqIn.app id
theorem SeqT.of {m : Mem} {ds : List D} : SeqT m (.lst ds) ds := .inl .of
theorem SeqIn.cons {m : Mem} {c : Addr × Cell} {x : D} {ds : List D} (h : SeqIn m x ds) : SeqIn (c :: m) x ds := h.imp id fun ⟨p, e, h⟩ => ⟨p, e, h.cons⟩
section
variable {K : PySem.W.Frag} {δ : List (Option D)} {m : Mem} {Q : D → Mem → Prop} {te tl : TE} {P : Ps} {R : XS} {t : TS} {u : WX → TS} {g : TG}
theorem cT_list {x : D} {ds : List D} (h : SeqT m x ds) (q : Q (.lst ds) m) : CW K (rListU K) [x] m Q := by
  rcases h with h | rfl
  · exact cq_list h q
  · exact cw_listT q
theorem swx_forA (h : EW K tl δ m fun x m1 => ∃ (α : Type) (xs : List α) (f : α → D), SeqT m1 x (xs.map f) ∧ ∃ Iv : Nat → List (Option D) → Mem → Prop, Iv 0 δ m1 ∧ (∀ (j : Nat) (δ' : List (Option D)) (m' : Mem), Iv j δ' m' → SeqT m' x (xs.map f)) ∧
      (∀ (j : Nat) (y : α) (δ' : List (Option D)) (m' : Mem), xs[j]? = some y → Iv j δ' m' → GW K g (f y) δ' m' fun δ2 m2 => SWX K u R δ2 m2 { nx := Iv (j + 1), ct := Iv (j + 1), bk := P.nx, rt := P.rt }) ∧
      (∀ (δ' : List (Option D)) (m' : Mem), Iv xs.length δ' m' → P.nx δ' m')) : SWX K (fun W => tFor (iAny K tl) g (u W)) R δ m P := fun σ H s M E k W kx =>
  h σ H s M _ fun x m1 v H1 ⟨α, xs, f, hx, Iv, h0, hsq, hs, hd⟩ s1 M1 r1 => by
    have turn : ∀ (i : Nat) (δ' : List (Option D)) (m' : Mem) (σ' : L2.St) (H' : Hp) (vi : V) (hlt : i < xs.length), Iv i δ' m' → Sub (hide m1 H1) (hide m' H') → Sl K (hide m' H') σ' δ' → MemOk K m' H' → Rd K (hide m' H') vi (f xs[i]) →
        g vi σ' H' fun σ2 H2 => u W { E with nx := fun σ3 H3 => ∃ δ3 m3, Iv (i + 1) δ3 m3 ∧ Sub (hide m1 H1) (hide m3 H3) ∧ Sl K (hide m3 H3) σ3 δ3 ∧ MemOk K m3 H3, ct := fun σ3 H3 => ∃ δ3 m3, Iv (i + 1) δ3 m3 ∧ Sub (hide m1 H1) (hide m3 H3) ∧ Sl K (hide m3 H3) σ3 δ3 ∧ MemOk K m3 H3, bk := E.nx } σ2 H2 := by
      intro i δ' m' σ' H' vi hlt hI s2 S2 M2 r2
      refine hs i _ δ' m' (List.getElem?_eq_getElem hlt) hI σ' H' vi S2 M2 r2 _ fun δ4 m4 σ4 H4 q4 s4 S4 M4 => ?_
      have s34 : Sub (hide m1 H1) (hide m4 H4) := s2.trans s4
      refine q4 σ4 H4 S4 M4 _ ⟨?_, ?_, ?_, ?_⟩ W (kx.mono (s1.trans s34))
      · exact fun δ5 m5 σ5 H5 q5 s5 S5 M5 => ⟨δ5, m5, q5, s34.trans s5, S5, M5⟩
      · exact fun d m5 v H5 q5 s5 M5 r5 => k.rt d m5 v H5 q5 (s1.trans (s34.trans s5)) M5 r5
      · exact fun δ5 m5 σ5 H5 q5 s5 S5 M5 => k.nx δ5 m5 σ5 H5 q5 (s1.trans (s34.trans s5)) S5 M5
      · exact fun δ5 m5 σ5 H5 q5 s5 S5 M5 => ⟨δ5, m5, q5, s34.trans s5, S5, M5⟩
    rcases hx with hx | rfl
    · obtain ⟨a, ws, rfl, ea, ra⟩ := hx.get M1 r1
      refine .inl ⟨a, rfl, ⟨ws, SqL.of ea⟩, fun i n σ' H' => n = xs.length - i ∧ i ≤ xs.length ∧ ∃ δ' m', Iv i δ' m' ∧ Sub (hide m1 H1) (hide m' H') ∧ Sl K (hide m' H') σ' δ' ∧ MemOk K m' H', ⟨xs.length, rfl, Nat.zero_le _, δ, m1, h0, Sub.refl _, s.mono s1, M1⟩, ?_⟩
      rintro i n σ' H' ⟨rfl, hi, δ', m', hI, s2, S2, M2⟩
      have hq : SeqIn m' x (xs.map f) := by
        rcases hsq i δ' m' hI with z | z
        · exact z
        · rcases hx with e | ⟨p, e, _⟩ <;> rw [e] at z <;> cases z
      obtain ⟨a', ws', ev, ea', ra'⟩ := hq.get M2 (r1.mono s2)
      cases ev
      have lw : ws'.length = xs.length := by rw [ra'.length, List.length_map]
      by_cases hlt : i < xs.length
      · refine .inr ⟨⟨ws', ws'[i]'(by omega), SqL.of ea', by simp [lw, hlt]⟩, _, fun σ3 H3 q => ⟨xs.length - (i + 1), by omega, rfl, hlt, q⟩, fun x3 H3 y => ?_⟩
        obtain ⟨rfl, y⟩ := y
        obtain ⟨v', h1, h2⟩ := ra'.get (show (xs.map f)[i]? = some (f xs[i]) by rw [List.getElem?_map, List.getElem?_eq_getElem hlt]; rfl)
        have z := y ws' (SqL.of ea')
        rw [h1] at z
        cases z
        exact turn i δ' m' σ' _ _ hlt hI s2 S2 M2 h2
      · have e : i = xs.length := by omega
        subst e
        exact .inl ⟨⟨ws', SqL.of ea', by omega⟩, k.nx δ' m' σ' H' (hd δ' m' hI) (s1.trans s2) S2 M2⟩
    · obtain ⟨a, ws, rfl, ea, ra⟩ := tup_at r1
      have fe : Feeds K (Itt K a) (hide m1 H1) (xs.map f) := by
        cases r1 with
        | tup e r => exact feeds_tup e r
      refine .inr ⟨a, rfl, ⟨ws, ea⟩, fun i n σ' H' => n = xs.length - i ∧ i ≤ xs.length ∧ ∃ δ' m', Iv i δ' m' ∧ Sub (hide m1 H1) (hide m' H') ∧ Sl K (hide m' H') σ' δ' ∧ MemOk K m' H', ⟨xs.length, rfl, Nat.zero_le _, δ, m1, h0, Sub.refl _, s.mono s1, M1⟩, ?_⟩
      rintro i n σ' H' ⟨rfl, hi, δ', m', hI, s2, S2, M2⟩
      by_cases hlt : i < xs.length
      · refine .inr ⟨fe.go i m' H' s2 M2 (by rw [List.length_map]; exact hlt), _, fun σ3 H3 q => ⟨xs.length - (i + 1), by omega, rfl, hlt, q⟩, fun x3 H3 y => ?_⟩
        obtain ⟨s3, M3, r3⟩ := fe.yld i m' H' x3 H3 (f xs[i]) s2 M2 (by rw [List.getElem?_map, List.getElem?_eq_getElem hlt]; rfl) y
        exact turn i δ' m' σ' H3 x3 hlt hI (s2.trans s3) (S2.mono s3) M3 r3
      · have e : i = xs.length := by omega
        subst e
        have := fe.stop m' H' s2 M2
        rw [List.length_map] at this
        exact .inl ⟨this, k.nx δ' m' σ' H' (hd δ' m' hI) (s1.trans s2) S2 M2⟩
end
/-! ### the sorted list of some names -/
theorem leT_total (a b : List Nat) : leT a b ∨ leT b a := by
  unfold leT
  induction a generalizing b with
  | nil => exact .inl (by cases b <;> simp [ltCps])
  | cons x a ih =>
    cases b with
    | nil => exact .inr (by simp [ltCps])
    | cons y b =>
      simp only [ltCps, Bool.or_eq_false_iff, decide_eq_false_iff_not, Bool.and_eq_false_iff, beq_eq_false_iff_ne, ne_eq]
      rcases Nat.lt_trichotomy x y with h | h | h
      · exact .inl ⟨by omega, .inl (by omega)⟩
      · rcases ih b with z | z
        · exact .inl ⟨by omega, .inr z⟩
        · exact .inr ⟨by omega, .inr z⟩
      · exact .inr ⟨by omega, .inl (by omega)⟩
def srtS (ws : List Str) : List Str := ws.mergeSort fun a b => !ltCps b.cps.toList a.cps.toList
theorem srtS_perm (ws : List Str) : (srtS ws).Perm ws := List.mergeSort_perm _ _
theorem srtS_srt (ws : List Str) : SortS (srtS ws) := by
  have := List.pairwise_mergeSort (le := fun a b : Str => !ltCps b.cps.toList a.cps.toList) (fun a b c h1 h2 => ?_) (fun a b => ?_) ws
  · exact this.imp fun h => by unfold leT; simpa using h
  · have := leT_trans (a := a.cps.toList) (b := b.cps.toList) (c := c.cps.toList) (by unfold leT; simpa using h1) (by unfold leT; simpa using h2)
    unfold leT at this
    simpa using this
  · rcases leT_total a.cps.toList b.cps.toList with h | h
    · unfold leT at h
      simp [h]
    · unfold leT at h
      simp [h]
theorem srtS_of {ws ys : List Str} (p : ys.Perm ws) (s : SortS ys) : ys = srtS ws := s.uniq (srtS_srt ws) (p.trans (srtS_perm ws).symm)
section
variable {K : PySem.W.Frag} {m : Mem} {Q : D → Mem → Prop}
theorem cT_sort {x : D} {ws : List Str} (h : SeqT m x (ws.map .str)) (l : ws.length < 64) (q : Q (.lst ((srtS ws).map .str)) m) : CW K (rSortU K) [x] m Q := by
  rcases h with (rfl | ⟨p, rfl, hm⟩) | rfl
  · exact cw_sortL l fun ys p s => by rw [srtS_of p s]; exact q
  · refine cw_or1 fun H v M a QQ k => ?_
    obtain ⟨i, hm⟩ := hm
    cases a with
    | cons a b =>
      cases b
      cases a
      obtain ⟨xs, e, r⟩ := cell_at M hm
      have := r.strs_v
      subst this
      refine ⟨p, ws, rfl, SqL.of e, l, fun ys z pm so np => ?_⟩
      obtain ⟨M2, s2, r2⟩ := new_lst M (RdL.strs (K := K) (F := hide m H) (ns := ys)) np
      rw [srtS_of pm (sortedS_pw so)] at r2 s2 M2 ⊢
      exact k _ m _ _ q s2 M2 r2
  · exact cw_sortT l fun ys p s => by rw [srtS_of p s]; exact q
theorem cD_sort {x : D} {kvs : List (Key × D)} {ks : List Str} (h : DctIn m x kvs) (hk : kvs.map (·.1) = ks.map Sum.inr) (l : ks.length < 64) (q : Q (.lst ((srtS ks).map .str)) m) : CW K (rSortU K) [x] m Q := by
  refine cw_or2 (cw_or1 fun H v M a QQ k => ?_)
  cases a with
  | cons a b =>
    cases b
    obtain ⟨p, xs, rfl, e, n, r⟩ := h.get M a
    refine ⟨p, xs, ks, rfl, .inl e, n.trans hk, l, fun ys z pm so np => ?_⟩
    obtain ⟨M2, s2, r2⟩ := new_lst M (RdL.strs (K := K) (F := hide m H) (ns := ys)) np
    rw [srtS_of pm (sortedS_pw so)] at r2 s2 M2 ⊢
    exact k _ m _ _ q s2 M2 r2
/-- d[k] of a dict, as data or as a cell -/
theorem oD_ix {x : D} {kvs : List (Key × D)} {w : Str} {d : D} (h : DctIn m x kvs) (e : valD kvs (.inr w) = some d) (q : Q d m) : OW K (rIxU K) x (.str w) m Q := fun H v u M a b QQ k => by
  obtain ⟨p, xs, rfl, e1, n, r⟩ := h.get M a
  cases b
  obtain ⟨z, h1, h2⟩ := (RdL.valV (.inr w) n r).1 d e
  exact .inr (.inr (.inr ⟨p, z, rfl, .inl ⟨xs, .inr w, .inl e1, rfl, h1.symm⟩, k d m z H q (Sub.refl _) M h2⟩))
end
/-! ### cells that nobody needs any more -/
/-- m1 is m with some cells more -/
def Gb (m m1 : Mem) : Prop := ∃ G : Mem, m1.Perm (m ++ G)
theorem Gb.refl {m : Mem} : Gb m m := ⟨[], by rw [List.append_nil]⟩
theorem Gb.app {m m1 r : Mem} (h : Gb m m1) : Gb m (m1 ++ r) := let ⟨G, h⟩ := h; ⟨G ++ r, by rw [← List.append_assoc]; exact h.append_right r⟩
theorem Gb.cons {m m1 : Mem} {x : Addr × Cell} (h : Gb m m1) : Gb (x :: m) (x :: m1) := let ⟨G, h⟩ := h; ⟨G, h.cons x⟩
theorem Gb.snoc {m m1 : Mem} {x : Addr × Cell} (h : Gb m m1) : Gb (m ++ [x]) (m1 ++ [x]) := let ⟨G, h⟩ := h; ⟨G, by
  refine (h.append_right [x]).trans ?_
  rw [List.append_assoc, List.append_assoc]
  exact List.Perm.append_left m List.perm_append_comm⟩
theorem Gb.perm {m m1 m2 : Mem} (h : Gb m m1) (p : m2.Perm m1) : Gb m m2 := let ⟨G, h⟩ := h; ⟨G, p.trans h⟩
theorem Gb.of {m m1 : Mem} (p : m1.Perm m) : Gb m m1 := Gb.refl.perm p
theorem Gb.trans {m m1 m2 : Mem} (h : Gb m m1) (h' : Gb m1 m2) : Gb m m2 := let ⟨G, h⟩ := h; let ⟨G', h'⟩ := h'; ⟨G ++ G', by rw [← List.append_assoc]; exact h'.trans (h.append_right G')⟩
theorem Gb.drop {m m1 : Mem} {x : Addr × Cell} (h : Gb m m1) : Gb m (x :: m1) := let ⟨G, h⟩ := h; ⟨x :: G, (h.cons x).trans List.perm_middle.symm⟩
section
variable {K : PySem.W.Frag} {H : Hp} {δ : List (Option D)} {m : Mem} {P : Ps} {R : XS} {t : TS} {u : WX → TS} {te : TE} {tt : TT} {Q : D → Mem → Prop}
theorem MemOk.dropG : ∀ (G : Mem) {m : Mem}, MemOk K (m ++ G) H → MemOk K m H ∧ Sub (hide (m ++ G) H) (hide m H)
  | [], m, M => by
    rw [List.append_nil] at M ⊢
    exact ⟨M, Sub.refl _⟩
  | x :: G, m, M => by
    have e : m ++ x :: G = (m ++ [x]) ++ G := by simp
    rw [e] at M ⊢
    obtain ⟨M1, s1⟩ := dropG G M
    obtain ⟨M2, s2, _⟩ := M1.drop (p := x.1) (c := x.2)
    exact ⟨M2, s1.trans s2⟩
theorem MemOk.gb {m1 : Mem} (M : MemOk K m1 H) (g : Gb m m1) : MemOk K m H ∧ Sub (hide m1 H) (hide m H) := by
  obtain ⟨G, p⟩ := g
  have := MemOk.dropG G (M.perm p)
  rw [← hide_perm p] at this
  exact this
theorem sw_free (h : SW K t δ m { nx := fun δ' m1 => ∃ m2, Gb m2 m1 ∧ P.nx δ' m2, rt := fun d m1 => ∃ m2, Gb m2 m1 ∧ P.rt d m2, bk := fun δ' m1 => ∃ m2, Gb m2 m1 ∧ P.bk δ' m2, ct := fun δ' m1 => ∃ m2, Gb m2 m1 ∧ P.ct δ' m2 }) : SW K t δ m P := fun σ H s M E k =>
  h σ H s M E ⟨fun δ' m' σ' H' ⟨m2, g, q⟩ s1 S1 M1 => let ⟨M2, s2⟩ := M1.gb g; k.nx δ' m2 σ' H' q (s1.trans s2) (S1.mono s2) M2, fun d m' v H' ⟨m2, g, q⟩ s1 M1 r1 => let ⟨M2, s2⟩ := M1.gb g; k.rt d m2 v H' q (s1.trans s2) M2 (r1.mono s2),
    fun δ' m' σ' H' ⟨m2, g, q⟩ s1 S1 M1 => let ⟨M2, s2⟩ := M1.gb g; k.bk δ' m2 σ' H' q (s1.trans s2) (S1.mono s2) M2, fun δ' m' σ' H' ⟨m2, g, q⟩ s1 S1 M1 => let ⟨M2, s2⟩ := M1.gb g; k.ct δ' m2 σ' H' q (s1.trans s2) (S1.mono s2) M2⟩
theorem swx_free (h : SWX K u (fun δ' C x m1 => ∃ m2, Gb m2 m1 ∧ R δ' C x m2) δ m { nx := fun δ' m1 => ∃ m2, Gb m2 m1 ∧ P.nx δ' m2, rt := fun d m1 => ∃ m2, Gb m2 m1 ∧ P.rt d m2, bk := fun δ' m1 => ∃ m2, Gb m2 m1 ∧ P.bk δ' m2, ct := fun δ' m1 => ∃ m2, Gb m2 m1 ∧ P.ct δ' m2 }) : SWX K u R δ m P := fun σ H s M E k W kx =>
  h σ H s M E ⟨fun δ' m' σ' H' ⟨m2, g, q⟩ s1 S1 M1 => let ⟨M2, s2⟩ := M1.gb g; k.nx δ' m2 σ' H' q (s1.trans s2) (S1.mono s2) M2, fun d m' v H' ⟨m2, g, q⟩ s1 M1 r1 => let ⟨M2, s2⟩ := M1.gb g; k.rt d m2 v H' q (s1.trans s2) M2 (r1.mono s2),
    fun δ' m' σ' H' ⟨m2, g, q⟩ s1 S1 M1 => let ⟨M2, s2⟩ := M1.gb g; k.bk δ' m2 σ' H' q (s1.trans s2) (S1.mono s2) M2, fun δ' m' σ' H' ⟨m2, g, q⟩ s1 S1 M1 => let ⟨M2, s2⟩ := M1.gb g; k.ct δ' m2 σ' H' q (s1.trans s2) (S1.mono s2) M2⟩ W
    fun δ' C x m' dd σ' H' ⟨m2, g, q⟩ s1 S1 M1 => let ⟨M2, s2⟩ := M1.gb g.snoc; kx δ' C x m2 dd σ' H' q (s1.trans s2) (S1.mono s2) M2
theorem sw_J (J : List (Option D) → Mem → Prop) (h : SW K t δ m { P with nx := J }) (n : ∀ δ' m', J δ' m' → P.nx δ' m') : SW K t δ m P := sw_mid h n (fun _ _ q => q) (fun _ _ q => q) (fun _ _ q => q)
theorem swx_J (J : List (Option D) → Mem → Prop) (h : SWX K u R δ m { P with nx := J }) (n : ∀ δ' m', J δ' m' → P.nx δ' m') : SWX K u R δ m P := swx_mid h n (fun _ _ q => q) (fun _ _ q => q) (fun _ _ q => q)
theorem swx_seqJ {v : WX → TS} (J : List (Option D) → Mem → Prop) (h : SWX K u R δ m { P with nx := J }) (n : ∀ δ' m', J δ' m' → SWX K v R δ' m' P) : SWX K (fun W => tSeq (u W) (v W)) R δ m P :=
  swx_seq (swx_mid h n (fun _ _ q => q) (fun _ _ q => q) (fun _ _ q => q))
theorem sw_seqJ {t u : TS} {R : Ps} (J : List (Option D) → Mem → Prop) (h : SW K t δ m { R with nx := J }) (n : ∀ δ' m', J δ' m' → SW K u δ' m' R) : SW K (tSeq t u) δ m R :=
  sw_seq (sw_mid h n (fun _ _ q => q) (fun _ _ q => q) (fun _ _ q => q))
end
/-! ### displays by their number of items -/
section
variable {K : PySem.W.Frag} {δ : List (Option D)} {m : Mem} {Q : D → Mem → Prop}
theorem ew_tup2 {t0 t1 : TE} (h0 : EW K t0 δ m fun x0 m1 => EW K t1 δ m1 fun x1 m2 => Q (.tup [x0, x1]) m2) : EW K (tTup (tCons t0 (tCons t1 tNil))) δ m Q := ew_tup (aw_cons (EW.imp h0 fun x0 m1 h1 => aw_cons (EW.imp h1 fun x1 m2 h2 => aw_nil ⟨Nat.le_of_ble_eq_true rfl, h2⟩)))
theorem ew_tup3 {t0 t1 t2 : TE} (h0 : EW K t0 δ m fun x0 m1 => EW K t1 δ m1 fun x1 m2 => EW K t2 δ m2 fun x2 m3 => Q (.tup [x0, x1, x2]) m3) : EW K (tTup (tCons t0 (tCons t1 (tCons t2 tNil)))) δ m Q := ew_tup (aw_cons (EW.imp h0 fun x0 m1 h1 => aw_cons (EW.imp h1 fun x1 m2 h2 => aw_cons (EW.imp h2 fun x2 m3 h3 => aw_nil ⟨Nat.le_of_ble_eq_true rfl, h3⟩))))
theorem ew_tup4 {t0 t1 t2 t3 : TE} (h0 : EW K t0 δ m fun x0 m1 => EW K t1 δ m1 fun x1 m2 => EW K t2 δ m2 fun x2 m3 => EW K t3 δ m3 fun x3 m4 => Q (.tup [x0, x1, x2, x3]) m4) : EW K (tTup (tCons t0 (tCons t1 (tCons t2 (tCons t3 tNil))))) δ m Q := ew_tup (aw_cons (EW.imp h0 fun x0 m1 h1 => aw_cons (EW.imp h1 fun x1 m2 h2 => aw_cons (EW.imp h2 fun x2 m3 h3 => aw_cons (EW.imp h3 fun x3 m4 h4 => aw_nil ⟨Nat.le_of_ble_eq_true rfl, h4⟩)))))
theorem ew_l0 (h0 : Q (.lst []) m) : EW K (tLst tNil) δ m Q := ew_lst (aw_nil ⟨Nat.le_of_ble_eq_true rfl, h0⟩)
theorem ew_l1 {t0 : TE} (h0 : EW K t0 δ m fun x0 m1 => Q (.lst [x0]) m1) : EW K (tLst (tCons t0 tNil)) δ m Q := ew_lst (aw_cons (EW.imp h0 fun x0 m1 h1 => aw_nil ⟨Nat.le_of_ble_eq_true rfl, h1⟩))
theorem ew_l3 {t0 t1 t2 : TE} (h0 : EW K t0 δ m fun x0 m1 => EW K t1 δ m1 fun x1 m2 => EW K t2 δ m2 fun x2 m3 => Q (.lst [x0, x1, x2]) m3) : EW K (tLst (tCons t0 (tCons t1 (tCons t2 tNil)))) δ m Q := ew_lst (aw_cons (EW.imp h0 fun x0 m1 h1 => aw_cons (EW.imp h1 fun x1 m2 h2 => aw_cons (EW.imp h2 fun x2 m3 h3 => aw_nil ⟨Nat.le_of_ble_eq_true rfl, h3⟩))))
theorem ew_l4 {t0 t1 t2 t3 : TE} (h0 : EW K t0 δ m fun x0 m1 => EW K t1 δ m1 fun x1 m2 => EW K t2 δ m2 fun x2 m3 => EW K t3 δ m3 fun x3 m4 => Q (.lst [x0, x1, x2, x3]) m4) : EW K (tLst (tCons t0 (tCons t1 (tCons t2 (tCons t3 tNil))))) δ m Q := ew_lst (aw_cons (EW.imp h0 fun x0 m1 h1 => aw_cons (EW.imp h1 fun x1 m2 h2 => aw_cons (EW.imp h2 fun x2 m3 h3 => aw_cons (EW.imp h3 fun x3 m4 h4 => aw_nil ⟨Nat.le_of_ble_eq_true rfl, h4⟩)))))
theorem ew_l6 {t0 t1 t2 t3 t4 t5 : TE} (h0 : EW K t0 δ m fun x0 m1 => EW K t1 δ m1 fun x1 m2 => EW K t2 δ m2 fun x2 m3 => EW K t3 δ m3 fun x3 m4 => EW K t4 δ m4 fun x4 m5 => EW K t5 δ m5 fun x5 m6 => Q (.lst [x0, x1, x2, x3, x4, x5]) m6) : EW K (tLst (tCons t0 (tCons t1 (tCons t2 (tCons t3 (tCons t4 (tCons t5 tNil))))))) δ m Q := ew_lst (aw_cons (EW.imp h0 fun x0 m1 h1 => aw_cons (EW.imp h1 fun x1 m2 h2 => aw_cons (EW.imp h2 fun x2 m3 h3 => aw_cons (EW.imp h3 fun x3 m4 h4 => aw_cons (EW.imp h4 fun x4 m5 h5 => aw_cons (EW.imp h5 fun x5 m6 h6 => aw_nil ⟨Nat.le_of_ble_eq_true rfl, h6⟩)))))))
theorem ew_l7 {t0 t1 t2 t3 t4 t5 t6 : TE} (h0 : EW K t0 δ m fun x0 m1 => EW K t1 δ m1 fun x1 m2 => EW K t2 δ m2 fun x2 m3 => EW K t3 δ m3 fun x3 m4 => EW K t4 δ m4 fun x4 m5 => EW K t5 δ m5 fun x5 m6 => EW K t6 δ m6 fun x6 m7 => Q (.lst [x0, x1, x2, x3, x4, x5, x6]) m7) : EW K (tLst (tCons t0 (tCons t1 (tCons t2 (tCons t3 (tCons t4 (tCons t5 (tCons t6 tNil)))))))) δ m Q := ew_lst (aw_cons (EW.imp h0 fun x0 m1 h1 => aw_cons (EW.imp h1 fun x1 m2 h2 => aw_cons (EW.imp h2 fun x2 m3 h3 => aw_cons (EW.imp h3 fun x3 m4 h4 => aw_cons (EW.imp h4 fun x4 m5 h5 => aw_cons (EW.imp h5 fun x5 m6 h6 => aw_cons (EW.imp h6 fun x6 m7 h7 => aw_nil ⟨Nat.le_of_ble_eq_true rfl, h7⟩))))))))
theorem ew_lM0 (h0 : ∀ p, Q (.adr p) (m ++ [(p, .lst [])])) : EW K (tLst tNil) δ m Q := ew_lstM (aw_nil ⟨Nat.le_of_ble_eq_true rfl, h0⟩)
end
end DL

set_option Elab.async false
set_option linter.all false
set_option maxRecDepth 100000
set_option maxHeartbeats 1000000
set_option autoImplicit false
/-! The end of a law whose program makes one lambda: its maker's table of code objects is a cell from the start. -/
namespace DL
open PySem PySem.Spec PyProof.Rows L2 LamX
section
variable {K : PySem.W.Frag} {x qual : Str} {st : Stmt} {f c : Addr} {ps : List Str}
variable {P : Program} {w : World} {mg : Str → Option Value} {base : Heap} {k : Nat} {N : List Str} {Pf : FS}
end
section
variable {P : Program} {w : World} {K : PySem.W.Frag} {mg mb : Str → Option Value} {k : Nat} {fa a c T : Addr} {fd : FuncData} {x q : Str} {Pf : FS} {s : Shared} {vs : List Value} {ns : List Int}
end
end DL

set_option Elab.async false
set_option linter.all false
set_option maxRecDepth 100000
set_option maxHeartbeats 1000000
set_option autoImplicit false
/-! sorted(xs), xs a list of pairs of whole numbers. -/
namespace DL
open PySem PySem.Spec PyProof.Rows L2 LamX SrtO
open Classical in
section
variable {K : PySem.W.Frag} {δ : List (Option D)} {m : Mem} {Q : D → Mem → Prop} {F : Hp}
end
/-! ### cells lent as data -/
/-- whether it names no place of the heap but by its address -/
def D.sc : D → Bool
  | .non | .bl _ | .int _ | .str _ | .ty _ | .adr _ => true
  | _ => false
/-- a plain value, or a tuple of such -/
def D.tsc : D → Bool
  | .tup ds => ds.all D.sc
  | d => d.sc
def Cell.flat : Cell → Bool
  | .lst ds => ds.all D.tsc
  | .dic kvs => (kvs.map Prod.snd).all D.sc
  | .ins _ fs => (fs.map Prod.snd).all D.sc
  | .xd fs => (fs.map Prod.snd).all D.sc
  | .dct _ kvs => (kvs.map Prod.snd).all D.tsc
  | .obj _ => true
  | .tbl _ => true
def Cell.own : Cell → Bool
  | .obj _ => false
  | .dct _ _ => false
  | _ => true
section
variable {K : PySem.W.Frag} {δ δ' : List (Option D)} {m m0 m1 r : Mem} {Q : D → Mem → Prop} {F G H H1 : Hp}
theorem Rd.sc {v : V} {d : D} (h : d.sc = true) (x : Rd K F v d) : Rd K G v d := by
  cases x with
  | non => exact .non
  | bl b => exact .bl b
  | int i => exact .int i
  | str x => exact .str x
  | adr a => exact .adr a
  | ty n => exact .ty n
  | _ => cases h
theorem RdL.sc : ∀ {vs : List V} {ds : List D}, ds.all D.sc = true → RdL K F vs ds → RdL K G vs ds
  | _, _, _, .nil => .nil
  | _, _, h, .cons a b => by
    rw [List.all_cons, Bool.and_eq_true] at h
    exact .cons (Rd.sc h.1 a) (RdL.sc h.2 b)
def ownHO : HO → Bool
  | .lst _ | .dK _ | .dT _ | .ins _ _ _ | .xd _ | .tbl _ => true
  | _ => false
theorem Rd.tsc {v : V} {d : D} (h : d.tsc = true) (t : ∀ a o, F a = some o → ownHO o = false → G a = some o) (x : Rd K F v d) : Rd K G v d := by
  cases x with
  | non => exact .non
  | bl b => exact .bl b
  | int i => exact .int i
  | str x => exact .str x
  | adr a => exact .adr a
  | ty n => exact .ty n
  | tup e r =>
    refine .tup ?_ (RdL.sc h r)
    rcases e with (q | ⟨o, q⟩) | q
    · exact .inl (.inl (t _ _ q rfl))
    · exact .inl (.inr ⟨o, t _ _ q rfl⟩)
    · exact .inr q
  | _ => cases h
theorem RdL.tsc (t : ∀ a o, F a = some o → ownHO o = false → G a = some o) : ∀ {vs : List V} {ds : List D}, ds.all D.tsc = true → RdL K F vs ds → RdL K G vs ds
  | _, _, _, .nil => .nil
  | _, _, h, .cons a b => by
    rw [List.all_cons, Bool.and_eq_true] at h
    exact .cons (Rd.tsc h.1 t a) (RdL.tsc t h.2 b)
mutual
theorem Rd.kdF (t : ∀ a o, F a = some o → ownHO o = false → G a = some o) : ∀ (k : NestedKey) {v : V}, Rd K F v (kd k) → Rd K G v (kd k)
  | .none, v, x => by
    simp only [kd] at x ⊢
    cases x; exact .non
  | .num i, v, x => by
    simp only [kd] at x ⊢
    cases x; exact .int i
  | .text y, v, x => by
    simp only [kd] at x ⊢
    cases x; exact .str y
  | .tup ks, v, x => by
    simp only [kd] at x ⊢
    cases x with
    | tup e r =>
      refine .tup ?_ (RdL.kdF t ks r)
      rcases e with (q | ⟨o, q⟩) | q
      · exact .inl (.inl (t _ _ q rfl))
      · exact .inl (.inr ⟨o, t _ _ q rfl⟩)
      · exact .inr q
theorem RdL.kdF (t : ∀ a o, F a = some o → ownHO o = false → G a = some o) : ∀ (ks : List NestedKey) {vs : List V}, RdL K F vs (kds ks) → RdL K G vs (kds ks)
  | [], vs, x => by
    simp only [kds] at x ⊢
    cases x; exact .nil
  | k :: ks, vs, x => by
    simp only [kds] at x ⊢
    cases x with
    | cons a b => exact .cons (Rd.kdF t k a) (RdL.kdF t ks b)
end
theorem kds_map {α : Type} (f : α → NestedKey) : ∀ ks : List α, kds (ks.map f) = ks.map fun k => kd (f k)
  | [] => by simp only [List.map_nil, kds]
  | k :: ks => by simp only [List.map_cons, kds, kds_map f ks]
theorem RdL.kd {β : Type} (t : ∀ a o, F a = some o → ownHO o = false → G a = some o) {ds : List (NestedKey × β)} {vs : List V} (x : RdL K F vs (ds.map fun q => DL.kd q.1)) : RdL K G vs (ds.map fun q => DL.kd q.1) := by
  rw [← kds_map] at x ⊢
  exact RdL.kdF t _ x
/-- δ' is δ, some cells of r told as data -/
def Lent (r : Mem) (δ δ' : List (Option D)) : Prop := δ'.length = δ.length ∧ ∀ (i : Nat) (d : D), δ'[i]? = some (some d) → δ[i]? = some (some d) ∨ ∃ (z : Addr) (c : Cell), δ[i]? = some (some (D.adr z)) ∧ (z, c) ∈ r ∧ c.d = some d
theorem Lent.refl : Lent r δ δ := ⟨rfl, fun _ _ h => .inl h⟩
theorem Lent.set {i : Nat} {z : Addr} {c : Cell} {d : D} (L : Lent r δ δ') (e : δ[i]? = some (some (D.adr z))) (hc : (z, c) ∈ r) (ec : c.d = some d) : Lent r δ (δ'.set i (some d)) := by
  refine ⟨by rw [List.length_set]; exact L.1, fun j x h => ?_⟩
  by_cases hj : i = j
  · subst hj
    have hl : i < δ'.length := by
      rw [L.1]
      exact (List.getElem?_eq_some_iff.mp e).1
    rw [List.getElem?_set_self hl] at h
    cases h
    exact .inr ⟨z, c, e, hc, ec⟩
  · rw [List.getElem?_set_ne hj] at h
    exact L.2 j x h
theorem Lent.sl {σ : L2.St} (L : Lent r δ δ') (M : MemOk K (m0 ++ r) H) (s : Sl K (hide (m0 ++ r) H) σ δ) : Sl K (hide m0 H) σ δ' := by
  have sb := (MemOk.dropG r M).2
  have nd := M.nd
  rw [List.map_append] at nd
  refine ⟨s.1.trans L.1.symm, fun i d h => ?_⟩
  rcases L.2 i d h with h | ⟨z, c, e, hc, ec⟩
  · obtain ⟨v, e1, r1⟩ := s.2 i d h
    exact ⟨v, e1, r1.mono sb⟩
  · obtain ⟨v, e1, r1⟩ := s.2 i _ e
    cases r1
    refine ⟨_, e1, still_of (M.at_ z c (List.mem_append_right _ hc)) ec sb (hide_out fun q => ?_)⟩
    exact (List.nodup_append.mp nd).2.2 z q z (List.mem_map_of_mem (f := Prod.fst) hc) rfl
end
/-! ### new cells; what is done to them -/
section
variable {K : PySem.W.Frag} {δ : List (Option D)} {m : Mem} {Q : D → Mem → Prop} {te : TE} {p : Addr} {ds : List D}
theorem ew_listM (h : EW K te δ m fun x m1 => ∃ ds, SeqIn m1 x ds ∧ ∀ z, Q (.adr z) (m1 ++ [(z, .lst ds)])) : EW K (tCB (rListU K) (tCons te tNil)) δ m Q := by
  refine ew_cb (aw_cons (h.imp fun x m1 ⟨ds, hx, q⟩ => aw_nil ?_))
  rcases hx with rfl | ⟨p, rfl, hm⟩
  · exact cw_listLM q
  · intro H vs M a QQ k
    cases a with
    | cons a b =>
      cases b
      obtain ⟨p', xs, e0, e, r⟩ := (show SeqIn m1 (.adr p) ds from .inr ⟨p, rfl, hm⟩).get M a
      subst e0
      refine ⟨p', xs, rfl, .inl (SqL.of e), fun z hz => ?_⟩
      obtain ⟨M2, s2⟩ := new_lstM M r hz
      exact k _ _ _ _ (q z) s2 M2 (.adr z)
end
section
variable {K : PySem.W.Frag} {δ : List (Option D)} {m : Mem} {Q : D → Mem → Prop} {te : TE} {p : Addr} {ds : List D}
theorem MUp.at_ {c c' : Cell} {m' : Mem} (h : MUp m p c c' m') : MAt m p c := let ⟨i, h, _⟩ := h; ⟨i, h⟩
end
theorem sOk_iff {x : Str} : PyData.strOk x = true ↔ ∀ c ∈ x.cps.toList, c < 1114112 := by
  unfold PyData.strOk
  rw [Array.all_eq_true']
  exact ⟨fun h c hc => of_decide_eq_true (h c (by simpa using hc)), fun h c hc => decide_eq_true (h c (by simpa using hc))⟩
theorem sOk_app {a b : Str} (ha : PyData.strOk a = true) (hb : PyData.strOk b = true) : PyData.strOk (a ++ b) = true := by
  rw [sOk_iff] at *
  intro c hc
  rw [show (a ++ b).cps.toList = a.cps.toList ++ b.cps.toList by show (a.cps ++ b.cps).toList = _; simp] at hc
  rcases List.mem_append.mp hc with h | h
  · exact ha c h
  · exact hb c h
theorem sOk_of (s : String) : PyData.strOk (Str.ofString s) = true := by
  rw [Str.ofString_eq_byList, sOk_iff]
  intro c hc
  have hc : c ∈ (s.toList.map Char.toNat).toArray.toList := hc
  rw [List.toList_toArray] at hc
  obtain ⟨d, _, rfl⟩ := List.mem_map.mp hc
  have := d.valid
  unfold UInt32.isValidChar Nat.isValidChar at this
  show d.val.toNat < _
  omega
theorem sOk_txt : ∀ (ts : List Str) (k : Nat) (acc : Str), PyData.strOk acc = true → (∀ t ∈ ts, PyData.strOk t = true) → PyData.strOk (textFrom k acc ts) = true
  | [], _, _, h, _ => h
  | t :: ts, k, acc, h, g => sOk_txt ts (k + 1) _ (sOk_app (sOk_app h (by split <;> exact sOk_of _)) (g t List.mem_cons_self)) fun x hx => g x (List.mem_cons_of_mem _ hx)
theorem shownAll_map : ∀ xs : List PyData, PyData.shownAll xs = xs.map PyData.shown
  | [] => by simp only [PyData.shownAll, List.map_nil]
  | x :: xs => by simp only [PyData.shownAll, List.map_cons, shownAll_map xs]
theorem sOk_list {xs : List PyData} (h : ∀ x ∈ xs, PyData.strOk x.shown = true) : PyData.strOk (PyData.list xs).shown = true := by
  simp only [PyData.shown, listText]
  refine sOk_app (sOk_txt _ _ _ (sOk_of _) fun t ht => ?_) (sOk_of _)
  rw [shownAll_map] at ht
  obtain ⟨x, hx, rfl⟩ := List.mem_map.mp ht
  exact h x hx
/-! ### raising terms within others -/
section
variable {K : PySem.W.Frag} {δ : List (Option D)} {m : Mem} {Q : D → Mem → Prop} {te : WX → TE} {tb : TE} {P : Ps} {R : XS} {g : TG}
end
/-! ### list(range(a, b)) -/
section
variable {K : PySem.W.Frag} {δ : List (Option D)} {m : Mem} {Q : D → Mem → Prop} {ta tb : TE}
end
end DL

set_option Elab.async false
set_option linter.all false
set_option maxRecDepth 100000
set_option maxHeartbeats 1000000
set_option autoImplicit false
/-! == and != of lists of instances with an own ==, where they are equal. -/
namespace DL
open PySem PySem.Spec PyProof.Rows L2 LamX SrtO
section
open MeetsSeq MeetsSeq2 MeetsSeq3 SeqRoads2
open AutoSeq1 (wpAny_loadPart')
variable {P : Program} {w : World} {A : Around} {RR : Result → Shared → Prop}
end
section
variable {X : Cx} {k : Nat} {f C : Addr} {ps : List Str} {Pf : FS}
end
section
variable {K : PySem.W.Frag} {m : Mem} {Q : D → Mem → Prop} {C : Addr} {Pf : FS} {ds es : List D}
theorem mem_ext {H H' : Hp} (M : MemOk K m H) (e : Ext H H') : MemOk K m H' ∧ Sub (hide m H) (hide m H') := by
  have sb : Sub (hide m H) (hide m H') := fun a o h => by
    have n : a ∉ m.map Prod.fst := fun z => by rw [hide_in z] at h; cases h
    rw [hide_out n] at h ⊢
    exact e a o h
  refine ⟨⟨M.nd, fun p c h => ?_⟩, sb⟩
  have hc := M.at_ p c h
  refine CellAt.mono hc sb ?_
  have : ∃ o, H p = some o := by
    cases c with
    | lst => obtain ⟨_, q, _⟩ := hc; exact ⟨_, q⟩
    | dic => obtain ⟨_, q, _⟩ := hc; exact ⟨_, q⟩
    | ins => obtain ⟨_, _, q, _⟩ := hc; exact ⟨_, q⟩
    | xd => obtain ⟨_, q, _⟩ := hc; exact ⟨_, q⟩
    | obj => exact ⟨_, hc⟩
    | tbl => obtain ⟨_, q, _⟩ := hc; exact ⟨_, q⟩
    | dct => obtain ⟨_, q, _⟩ := hc; exact ⟨_, q⟩
  obtain ⟨o, q⟩ := this
  rw [q, e _ _ q]
end
end DL

set_option Elab.async false
set_option linter.all false
set_option maxRecDepth 100000
set_option maxHeartbeats 1000000
set_option autoImplicit false
/-! list(d.items()), d a dict as data. -/
namespace DL
open PySem PySem.Spec PyProof.Rows L2 LamX SrtO
section
variable {K : PySem.W.Frag} {δ : List (Option D)} {m : Mem} {Q : D → Mem → Prop} {te : TE}
end
end DL

set_option Elab.async false
set_option linter.all false
set_option maxRecDepth 100000
set_option maxHeartbeats 1000000
set_option autoImplicit false
/-! Defs that raise and that come to repr: entered where no guard is up. -/
namespace DL
open PySem PySem.Spec PyProof.Rows L2
structure FnGX (P : Program) (w : World) (K : PySem.W.Frag) (mg : Str → Option Value) (base : Heap) (CX : CXT) (k : Nat) (f : Addr) (fd : FuncData) (ps : List Str) (sp : Sp) : Prop where
  long : ∀ vs H Q E, sp vs H Q E → vs.length = ps.length
  go : ∀ (A : Around) (up : List Env) (s : Shared) (H : Hp) (args : Args) (us : List Value) (vs : List V) (Q : VK) (E : XK), A.guards = some [] → Room k A → Env0 P w K mg base A up s H → BindsTo s fd args (ps.zip us) → Vals vs us → sp vs H Q E →
    codeAny (model P w) A (.call (.ref f) args) (CR CX up P w H s Q E) s
section
variable {P : Program} {w : World} {K : PySem.W.Frag} {mg : Str → Option Value} {base : Heap} {f : Addr} {fd : FuncData} {ps : List Str} {sp : Sp} {k : Nat} {CX : CXT}
theorem FnGX.up {j : Nat} (F : FnGX P w K mg base CX j f fd ps sp) (h : j ≤ k) : FnGX P w K mg base CX k f fd ps sp := ⟨F.long, fun A up s H args us vs Q E hg hr => F.go A up s H args us vs Q E hg (hr.mono h)⟩
theorem FnGX.of (F : FnOk P w K mg base CX k f fd ps sp) : FnGX P w K mg base CX k f fd ps sp := ⟨F.len, fun A up s H args us vs Q E _ hr => F.run A up s H args us vs Q E hr⟩
end
section
variable {P : Program} {w : World} {K : PySem.W.Frag} {mg : Str → Option Value} {base : Heap} {k : Nat} {f : Addr} {ps : List Str} {Pf : FX}
def DefGX (P : Program) (w : World) (K : PySem.W.Frag) (mg : Str → Option Value) (base : Heap) (k : Nat) (f : Addr) (ps : List Str) (Pf : FX) : Prop := ∃ fd, FnGX P w K mg base (CX P w) k f fd ps (spX K Pf) ∧ Binds K fd ps [] ∧ FdAt K f fd
theorem DefGX.up {j : Nat} (h : DefGX P w K mg base j f ps Pf) (l : j ≤ k) : DefGX P w K mg base k f ps Pf := let ⟨fd, F, b⟩ := h; ⟨fd, F.up l, b⟩
/-- where it raises nothing -/
theorem DefGX.quiet (h : DefGX P w K mg base k f ps Pf) : DefG P w K mg base k f ps Pf.quiet := by
  obtain ⟨fd, F, b, e⟩ := h
  have up : ∀ {vs : List V} {H : Hp} {Q : VK} {E : XK}, spOf K Pf.quiet vs H Q E → spX K Pf vs H Q fun _ _ _ => False := fun {vs H Q E} ⟨ds, m, QS, r, M, p, q⟩ => ⟨ds, m, QS, _, r, M, p, q, fun _ _ _ _ _ z => z.elim⟩
  refine ⟨fd, ⟨fun vs H Q E q => F.long vs H Q _ (up q), fun A outer s H args us vs Q hg hr he hb hv q => codeAny_mono (F.go A outer s H args us vs Q _ hg hr he hb hv (up q)) fun r s' c => ?_⟩, b, e⟩
  match r, c with
  | .error e, c => obtain ⟨_, _, _, _, _, _, _, _, _, _, _, _, z⟩ := c; exact z.elim
  | .ok (.ret u), c => exact c
  | .ok .next, c => exact c
  | .ok .brk, c => exact c
  | .ok .cont, c => exact c
end
section
variable {X : Cx} {CX : CXT} {k n : Nat} {f C : Addr} {fd : FuncData} {ps ks : List Str} {sp : Sp} {E : XK} {g : List Value → List Value → List Value} {gV : List V → List V → List V}
end
section
variable {X : Cx} {k n : Nat} {f C : Addr} {ps ks : List Str} {Pf : FX} {W : WX} {x nm : Str} {p pos apos : Pos} {e o : Expr} {es : List Expr} {kws : List Keyword} {ta : TE} {t tk : TA} {idx : List Nat} {dd : List D} (K : PySem.W.Frag) (hK : X.K = K)
include hK
end
end DL

set_option Elab.async false
set_option linter.all false
set_option maxRecDepth 100000
set_option maxHeartbeats 1000000
set_option autoImplicit false
/-! Shown lists and tuples in which flat dicts stand; a dict held against the empty one. -/
namespace DL
open PySem PySem.Spec PyProof.Rows L2
def kPy : Key → PyData
  | .inl i => .int i
  | .inr x => .str x
/-- a plain value of a dict -/
inductive Fl : V → PyData → Prop
  | non : Fl .non .none
  | int (i : Int) : Fl (.int i) (.int i)
  | str (x : Str) : Fl (.str x) (.str x)
inductive FlK : List (Key × V) → List (PyData × PyData) → Prop
  | nil : FlK [] []
  | cons {k : Key} {v : V} {d : PyData} {vs : List (Key × V)} {ps : List (PyData × PyData)} : Fl v d → FlK vs ps → FlK ((k, v) :: vs) ((kPy k, d) :: ps)
/-- a thing without dicts, or a flat dict -/
inductive It (K : PySem.W.Frag) (H : Hp) : V → PyData → Prop
  | pl {v : V} {d : PyData} : Dp K H v d → d.hasDict = false → It K H v d
  | dk {a : Addr} {vs : List (Key × V)} {ps : List (PyData × PyData)} : H a = some (.dK vs) → FlK vs ps → It K H (.ref a) (.dict ps)
inductive ItL (K : PySem.W.Frag) (H : Hp) : List V → List PyData → Prop
  | nil : ItL K H [] []
  | cons {v : V} {vs : List V} {d : PyData} {ds : List PyData} : It K H v d → ItL K H vs ds → ItL K H (v :: vs) (d :: ds)
section
variable {X : Cx} {pins : List (Addr × Obj)} {σ : L2.St} {H : Hp} {s : Shared}
end
section
variable {K : PySem.W.Frag} {m : Mem} {Q : D → Mem → Prop}
/-! ### what is shown, with flat dicts in it -/
def D.plv : D → Bool
  | .non => true
  | .int _ => true
  | .str _ => true
  | _ => false
theorem flk_of {F : Hp} : ∀ {vs : List (Key × V)} {ds : List (Key × D)}, vs.map Prod.fst = ds.map Prod.fst → RdL K F (vs.map Prod.snd) (ds.map Prod.snd) → (ds.all fun q => q.2.plv) = true → FlK vs (D.pyK ds)
  | [], [], _, _, _ => by
    simp only [D.pyK]
    exact .nil
  | [], _ :: _, h, _, _ => by cases h
  | _ :: _, [], h, _, _ => by cases h
  | (k1, v) :: vs, (k2, d) :: ds, h, r, f => by
    simp only [List.map_cons, List.cons.injEq] at h
    obtain ⟨rfl, h⟩ := h
    simp only [List.all_cons, Bool.and_eq_true] at f
    cases r with
    | cons r rs =>
      have g := flk_of h rs f.2
      have fv : Fl v (D.py d) := by
        have f1 := f.1
        cases d with
        | non => cases r; simp only [D.py]; exact .non
        | int i => cases r; simp only [D.py]; exact .int i
        | str x => cases r; simp only [D.py]; exact .str x
        | _ => cases f1
      simp only [D.pyK]
      cases k1 <;> exact .cons fv g
def ShI (K : PySem.W.Frag) (m : Mem) (x : D) (d : PyData) : Prop := ∀ (H : Hp) (v : V), MemOk K m H → Rd K (hide m H) v x → It K H v d
def ShL (K : PySem.W.Frag) (m : Mem) (xs : List D) (ds : List PyData) : Prop := ∀ (H : Hp) (vs : List V), MemOk K m H → RdL K (hide m H) vs xs → ItL K H vs ds
theorem ShI.pl {x : D} {d : PyData} (h : Res K m x d) (nd : d.hasDict = false) : ShI K m x d := fun H v M r => .pl (h H v M r) nd
theorem ShI.dic {x : D} {kvs : List (Key × D)} (hx : DctIn m x kvs) (f : (kvs.all fun q => q.2.plv) = true) : ShI K m x (.dict (D.pyK kvs)) := fun H v M r => by
  rcases hx with rfl | ⟨p, rfl, i, hm⟩
  · obtain ⟨p, xs, rfl, e1, e2, e3⟩ := dic_at r
    exact .dk e1 (flk_of e2 e3 f)
  · cases r
    obtain ⟨xs, e1, e2, e3⟩ := dicM_at M hm
    exact .dk e1 (flk_of e2 e3 f)
theorem ShL.nil : ShL K m [] [] := fun H vs M r => by cases r; exact .nil
theorem ShL.cons {x : D} {d : PyData} {xs : List D} {ds : List PyData} (h : ShI K m x d) (h' : ShL K m xs ds) : ShL K m (x :: xs) (d :: ds) := fun H vs M r => by
  cases r with
  | cons a b => exact .cons (h H _ M a) (h' H _ M b)
/-- how far a shown thing goes -/
structure Shx (n B : Nat) (d : PyData) : Prop where
  ok : d.showable = true
  dp : d.depth ≤ n
  le : d.shown.length ≤ B
theorem Shw.x {n B : Nat} {d : PyData} (h : Shw n B d) : Shx n B d := ⟨h.ok, h.dp, h.le⟩
end
section
variable {K : PySem.W.Frag} {m : Mem} {Q : D → Mem → Prop} {p q : Str}
/-- data, once cells, of which nothing else is looked at any more -/
theorem ew_freeze {δ : List (Option D)} {te : TE} (h : EW K te δ m fun x m1 => ∃ m0 r d, m1.Perm (m0 ++ r) ∧ (∀ (H : Hp) (v : V), MemOk K (m0 ++ r) H → Rd K (hide (m0 ++ r) H) v x → Rd K (hide m0 H) v d) ∧ Q d m0) : EW K te δ m Q := fun σ H s M QQ k =>
  h σ H s M _ fun x m1 v H1 ⟨m0, r, d, p, f, w⟩ s1 M1 r1 => by
    have M1 := M1.perm p
    rw [hide_perm p] at s1 r1
    obtain ⟨M2, sb⟩ := MemOk.dropG r M1
    exact k d m0 v H1 w (s1.trans sb) M2 (f H1 v M1 r1)
end
end DL

set_option Elab.async false
set_option linter.all false
set_option maxRecDepth 100000
set_option maxHeartbeats 1000000
set_option autoImplicit false
/-! Several except clauses, each with the same name for what is caught. -/
namespace DL
open PySem PySem.Spec PyProof.Rows L2
abbrev Clause : Type := Value × (Addr → Value → Option Addr → TS)
inductive Clauses (X : Cx) (n : Str) : List ExceptHandler → List Clause → Prop
  | nil : Clauses X n [] []
  | cons {x : Str} {c : Value} {ts : Addr → Value → Option Addr → TS} {st : Stmt} {sts : List Stmt} {p1 p2 : Pos} {hs : List ExceptHandler} {r : List Clause} (nm : Names X x c)
      (go : ∀ (a : Addr) (o : Obj) (cls : Value) (d : Option Addr) (pn : List (Addr × Obj)), Zc cls d o → (∃ vs, o.data = .fields vs) → ∃ t, PSs (X.suite a ((a, o) :: pn)) (st :: sts) t ∧ t = ts a cls d) (tl : Clauses X n hs r) :
      Clauses X n (.ExceptHandler (some (.Name x p1)) (some n) (st :: sts) p2 :: hs) ((c, ts) :: r)
section
variable {X : Cx} {n : Str} {i : Nat} {out : WX} {body : List Stmt} {c0 : ExceptHandler} {cr : List ExceptHandler} {l : List Clause} {at_ : Pos} {tb : WX → TS}
end
section
variable {K : PySem.W.Frag} {δ : List (Option D)} {m : Mem} {P : Ps} {tb : WX → TS} {i : Nat}
end
end DL

set_option Elab.async false
set_option linter.all false
set_option maxRecDepth 100000
set_option maxHeartbeats 1000000
set_option autoImplicit false
/-! enumerate(t), t a tuple. -/
namespace DL
open PySem PySem.Spec PyProof.Rows L2
section
variable {prog : Program} {w : World} {A : Around} {E : Value → Shared → Prop} {s : Shared}
end
section
variable {K : PySem.W.Frag} {δ : List (Option D)} {m : Mem}
end
/-! ### a part of a list, a text, a tuple -/
def rSlV (K : PySem.W.Frag) : V → Option Int → Option Int → Hp → VK → Prop := fun x lo hi H Q => rSlU K x lo hi H Q ∨ rSlA K x lo hi H Q
theorem kx_slV {X : Cx} (K : PySem.W.Frag) (hK : X.K = K) : SlR X (rSlV K) := by subst hK; exact SlR.or sl_U sl_tupA
section
variable {K : PySem.W.Frag} {m : Mem} {Q : D → Mem → Prop}
theorem lw_VT {ds : List D} {lo hi : Option Int} (ne : ¬ (HT.sIx ds.length 0 lo = 0 ∧ HT.sIx ds.length ds.length hi = ds.length)) (q : Q (.tup (cutD ds lo hi)) m) : LW (K := K) (rSlV K) (.tup ds) lo hi m Q := fun H v M a QQ k => by
  obtain ⟨p, vs, rfl, e, r⟩ := tup_at a
  have l : vs.length = ds.length := r.length
  refine .inr ⟨p, vs, rfl, e, fun c => absurd (by rw [l] at c; exact c) ne, fun _ z hz => ?_⟩
  obtain ⟨M2, s2, r3⟩ := new_tup M (r.cut lo hi) hz
  exact k _ m _ _ q s2 M2 r3
end
end DL

set_option Elab.async false
set_option linter.all false
set_option maxRecDepth 100000
set_option maxHeartbeats 1000000
set_option autoImplicit false
/-! enumerate(xs), xs a list that is data or a cell; a dict told by what was lent lists; lists of cells turned round. -/
namespace DL
open PySem PySem.Spec PyProof.Rows L2
section
variable {K : PySem.W.Frag} {δ δ' : List (Option D)} {m m0 m1 r : Mem} {Q : D → Mem → Prop} {te tl : TE} {P : Ps} {t : TS} {tt : TT} {g : TG} {ta : TA}
end
/-- a thing that may be shown, and whose text may be shown -/
structure TwQ (n B : Nat) (d : PyData) : Prop where
  shw : Shw n B d
  ok : PyData.strOk d.shown = true
theorem twQ_bl (b : Bool) : TwQ 0 300 (D.bl b).py := by
  rw [show (D.bl b).py = .bool b by simp only [D.py]]
  exact ⟨⟨by simp only [PyData.showable], by simp only [PyData.hasDict], by simp only [PyData.depth]; omega, by simp only [PyData.shown]; cases b <;> decide⟩, by simp only [PyData.shown]; cases b <;> decide +kernel⟩
theorem sOkJ {sep : Str} (hs : PyData.strOk sep = true) : ∀ ts : List Str, (∀ t ∈ ts, PyData.strOk t = true) → PyData.strOk (Str.join sep ts) = true
  | [], _ => by
    rw [sOk_iff]; intro c hc; have hc : c ∈ ([] : List Nat) := hc
    cases hc
  | [x], h => h x List.mem_cons_self
  | x :: y :: r, h => by
    show PyData.strOk (x ++ sep ++ Str.join sep (y :: r)) = true
    exact sOk_app (sOk_app (h x List.mem_cons_self) hs) (sOkJ hs (y :: r) fun t ht => h t (List.mem_cons_of_mem _ ht))
theorem sOkT {xs : List PyData} (h : ∀ x ∈ xs, PyData.strOk x.shown = true) : PyData.strOk (PyData.tuple xs).shown = true := by
  simp only [PyData.shown, tupleText]
  refine sOk_app (sOk_app (sOk_of _) (sOkJ (sOk_of _) _ fun t ht => ?_)) (by split <;> exact sOk_of _)
  rw [shownAll_map] at ht
  obtain ⟨x, hx, rfl⟩ := List.mem_map.mp ht
  exact h x hx
theorem TwQ.up {n n' B B' : Nat} {d : PyData} (h : TwQ n B d) (a : n ≤ n') (b : B ≤ B') : TwQ n' B' d := ⟨h.shw.up a b, h.ok⟩
theorem TwQ.list {n B N : Nat} {xs : List D} (h : ∀ x ∈ xs, TwQ n B x.py) (hN : xs.length ≤ N) : TwQ (n + 1) (N * (B + 2) + 3) (D.lst xs).py := by
  rw [show (D.lst xs).py = .list (xs.map D.py) by simp only [D.py]; rw [pyL_map]]
  have k : ∀ y ∈ xs.map D.py, TwQ n B y := fun y hy => by
    obtain ⟨x, hx, rfl⟩ := List.mem_map.mp hy
    exact h x hx
  refine ⟨(Shw.list fun y hy => (k y hy).shw).up (Nat.le_refl _) ?_, sOk_list fun y hy => (k y hy).ok⟩
  rw [List.length_map]
  exact Nat.add_le_add_right (Nat.mul_le_mul_right _ hN) _
theorem TwQ.tup {n B N : Nat} {xs : List D} (h : ∀ x ∈ xs, TwQ n B x.py) (hN : xs.length ≤ N) : TwQ (n + 1) (N * (B + 2) + 3) (D.tup xs).py := by
  rw [show (D.tup xs).py = .tuple (xs.map D.py) by simp only [D.py]; rw [pyL_map]]
  have k : ∀ y ∈ xs.map D.py, TwQ n B y := fun y hy => by
    obtain ⟨x, hx, rfl⟩ := List.mem_map.mp hy
    exact h x hx
  refine ⟨(Shw.tuple fun y hy => (k y hy).shw).up (Nat.le_refl _) ?_, sOkT fun y hy => (k y hy).ok⟩
  rw [List.length_map]
  exact Nat.add_le_add_right (Nat.mul_le_mul_right _ hN) _
end DL

set_option Elab.async false
set_option linter.all false
set_option maxRecDepth 100000
set_option maxHeartbeats 1000000
set_option autoImplicit false
/-! things that are written: asked, called and made as cells. -/
namespace DL
open PySem PySem.Spec PyProof.Rows L2
section
variable {X : Cx} {k n : Nat} {f C : Addr} {ps ks : List Str} {Pf : FS} {pos : Pos} {e fe : Expr} {es : List Expr} {kws : List Keyword} {tf : TE} {t tk : TA} {idx : List Nat} {dd : List D} (K : PySem.W.Frag) (hK : X.K = K)
end
/-! ### things as cells -/
section
variable {K : PySem.W.Frag} {δ : List (Option D)} {m : Mem} {Q : D → Mem → Prop} {te ta tf : TE} {t tk : TA} {Pf : FS} {E : XK} {n l : Nat} {idx : List Nat} {dd : List D} {C : Addr} {nm : Str}
end
section
variable {K : PySem.W.Frag} {δ : List (Option D)} {m : Mem} {te ta : TE}
end
end DL

set_option Elab.async false
set_option linter.all false
set_option maxRecDepth 100000
set_option maxHeartbeats 1000000
set_option autoImplicit false
/-! fields as targets among others: self.a, self.b = .. -/
namespace DL
open PySem PySem.Spec PyProof.Rows L2
section
variable {K : PySem.W.Frag} {δ : List (Option D)} {m : Mem} {ta : TE} {Q : D → Mem → Prop}
end
end DL

set_option Elab.async false
set_option linter.all false
set_option maxRecDepth 100000
set_option maxHeartbeats 1000000
set_option autoImplicit false
/-! defs that say super().m(..) as their first row, or return it. -/
namespace DL
open PySem PySem.Spec PyProof.Rows L2
/-! ### the scope, the context -/
structure FnScopeS (N ps : List Str) (sc : Scope) : Prop where
  fun_ : sc.kind = .function
  noco : sc.isCoroutine = false
  nogen : sc.isGenerator = false
  uniq : N.Nodup
  first : N.take ps.length = ps
  locs : ∀ x ∈ ps, sc.names.lookup x = some .local
  uncelled : ∀ y ∈ sc.names, y.2 ≠ .cell
  lone : ∀ y ∈ sc.names, y.2 = .free → y.1 = "__class__"
  says : sc.names.lookup ("super" : Str) = some .globalImplicit
  knows : sc.names.lookup ("__class__" : Str) = some .free
section
variable {T : CXT} {P : Program} {w : World} {K : PySem.W.Frag} {mg : Str → Option Value} {base : Heap} {N ps : List Str} {q : Str} {sc : Scope} {f cc D : Addr} {cd cl : Value} {cld : Option Addr} {csl : Array (Option Value)} {A : Around} {up : List Env} {s : Shared} {H : Hp} {E : XK}
end
/-! ### rows in the activation itself -/
structure PEA (X : Cx) (all : List Stmt) (e : Expr) (t : TE) : Prop where
  go : ∀ (pins : List (Addr × Obj)) (s : Shared) (σ : L2.St) (H : Hp) (Q : VK), Inv X pins σ H s → t σ H Q → _root_.PySem.wpAt (model X.prog X.w) X.A (.func all X.env) (eval e X.env) (EP X pins σ Q) X.xe s
structure PSA (X : Cx) (all st : List Stmt) (t : TS) : Prop where
  go : ∀ (pins : List (Addr × Obj)) (s : Shared) (σ : L2.St) (H : Hp) (D : Ends), Inv X pins σ H s → t D σ H → _root_.PySem.wpAt (model X.prog X.w) X.A (.func all X.env) (execs st X.env) (SP X pins D) X.xe s
section
variable {X : Cx} {all rest : List Stmt} {e : Expr} {te : TE} {u : TS} {pos : Pos}
end
def fileIn (K : PySem.W.Frag) (cd : Value) (name : Str) : Bool := match cd with
  | .ref c => (match K.lookup c with
    | some ⟨_, _, .fields vs, _⟩ => (match vs[2]? with | some (Value.str n _) => name == n | _ => false)
    | _ => false)
  | _ => false
/-- what a body that says super() knows -/
structure SupX (X : Cx) (D : Addr) : Prop where
  says : X.env.kindOf "super" = some .globalImplicit
  knows : X.env.kindOf "__class__" = some .free
  self : ∃ f oc od fd osl ar, X.env.func = some f ∧ X.K.lookup f = some ⟨oc, od, .func fd, osl⟩ ∧ (fd.params.posonlyargs ++ fd.params.args).head? = some ar ∧ X.N[0]? = some ar.arg ∧ X.env.kindOf ar.arg = some .local
  code : ∃ c, X.env.code = .ref c ∧ fileIn X.K (.ref c) X.prog.main.file = true
  cell : ∃ cc a b d, X.env.cells.lookup ("__class__" : Str) = some cc ∧ X.K.lookup cc = some ⟨a, b, .cell (some (.ref D)), d⟩
  blt : X.mg "super" = none
  top : (X.prog.main.scope.names.lookup ("super" : Str)).isSome = false
  cls : PySem.W.isClsIn X.K D = true
  any : PySem.W.nsIn X.K cStatics "thirdparty.any" = some none
structure SupM (K : PySem.W.Frag) (C D : Addr) (m : Str) (f : Addr) : Prop where
  sub : PySem.W.mroIn K C (.ref D) = some true
  at_ : PySem.W.ks_superIn K C D m = some (some (.ref f))
  ty : PySem.W.typeIn K (.ref f) = some (.type "function")
  fi : PySem.W.fnIn K f = true
section
variable {X : Cx} {all : List Stmt} {D C a dx : Addr} {fs : List (Str × V)} {pins : List (Addr × Obj)} {σ : L2.St} {H : Hp} {s : Shared}
end
section
variable {X : Cx} {all : List Stmt} {D C f : Addr} {fd : FuncData} {ps : List Str} {sp : Sp} {W : WX} {k : Nat} {p0 p1 apos pos : Pos} {nm : Str} {e : Expr} {es : List Expr} {t : TA}
end
section
variable {K : PySem.W.Frag} {δ : List (Option D)} {m : Mem} {Q : D → Mem → Prop} {R : XS} {t : TA} {Pf : FX} {C p : Addr} {fs : List (Str × D)}
end
section
variable {P : Program} {w : World} {K : PySem.W.Frag} {mg : Str → Option Value} {base : Heap} {k : Nat} {f D : Addr} {ps N : List Str} {Pf : FX} {x qual name : Str} {st : Stmt}
end
/-! ### how they stand behind the top -/
section
variable {K : PySem.W.Frag} {x qual name : Str} {st : Stmt} {f T c cc D : Addr} {ps ks : List Str} {oc kV dc pm ct oT a1 : Value} {od an dT a2 : Option Addr} {sl sT a3 : Array (Option Value)} {its : Array Value} {nT n : Nat} {idx : List Nat} {dd : List DL.D} {dvs : List V}
end
/-! ### isinstance of a thing that is a cell, an own class above its own -/
section
variable {K : PySem.W.Frag} {m : Mem} {Q : DL.D → Mem → Prop}
end
end DL

set_option Elab.async false
set_option linter.all false
set_option maxRecDepth 100000
set_option maxHeartbeats 1000000
set_option autoImplicit false
/-! things of one class or another; calls of things that raise; things made that stay cells, or raise. -/
namespace DL
open PySem PySem.Spec PyProof.Rows L2
section
variable {K : PySem.W.Frag} {δ : List (Option D)} {m : Mem} {Q : D → Mem → Prop} {R : XS} {t u : TE} {tx ux : WX → TE}
end
section
variable {X : Cx} {k n : Nat} {f C : Addr} {ps ks : List Str} {Pf : FX} {W : WX} {pos : Pos} {e fe : Expr} {es : List Expr} {kws : List Keyword} {tf : TE} {t tk : TA} {idx : List Nat} {dd : List D} (K : PySem.W.Frag) (hK : X.K = K)
end
section
variable {K : PySem.W.Frag} {δ : List (Option D)} {m : Mem} {Q : D → Mem → Prop} {R : XS} {tf : TE} {t tk : TA} {Pf : FX} {n l : Nat} {idx : List Nat} {dd : List D} {C : Addr}
end
end DL

set_option Elab.async false
set_option linter.all false
set_option maxRecDepth 100000
set_option maxHeartbeats 2000000
set_option autoImplicit false
/-! == and != of a thing of an own class and something else, either way round. -/
namespace DL
open PySem PySem.Spec PyProof.Rows L2
/-! ### what a builtin says of a thing of an own class -/
/-- T.__eq__ (or T.__ne__) declines -/
def Waives (prog : Program) (w : World) (A : Around) (E : Value → Shared → Prop) (id : String) (u v : Value) (s : Shared) : Prop := ∀ Q : Value → Shared → Prop, Q .notImplemented s → wpAny (model prog w) A (call (.builtin id) [u, v]) Q E s
section
variable {prog : Program} {w : World} {A : Around} {E : Value → Shared → Prop} {s : Shared} {K : PySem.W.Frag} {b C : Addr} {ob : Obj} {od : Option Obj}
theorem gv_none_eq (l : Addr) : Gives (Builtin.«NoneType.__eq__» ⟨[.none, .ref l], []⟩) (.val Value.notImplemented) := .of_wp fun M A E s Q h => by
  obtain ⟨hp, g, d, tk, os⟩ := s
  wp_walk
  exact ⟨_, rfl, h⟩
theorem gv_none_ne (l : Addr) : Gives (Builtin.«NoneType.__ne__» ⟨[.none, .ref l], []⟩) (.val Value.notImplemented) := .of_wp fun M A E s Q h => by
  obtain ⟨hp, g, d, tk, os⟩ := s
  wp_walk
  exact ⟨_, rfl, h⟩
theorem waive_none_eq : Waives prog w A E "NoneType.__eq__" .none (.ref b) s := fun Q q => call_gives F.slot_NoneType_eq rfl F.entry_NoneType_eq (F.args_NoneType_eq_2 _ _) (gv_none_eq b) q
theorem waive_none_ne : Waives prog w A E "NoneType.__ne__" .none (.ref b) s := fun Q q => call_gives F.slot_NoneType_ne rfl F.entry_NoneType_ne (F.args_NoneType_ne_2 _ _) (gv_none_ne b) q
theorem waive_list_eq {u : Value} (hT : s.TypeIs u "list") (inst : PySem.W.Looks (model prog w) s.heap (isInstance (.ref b) (.type "list")) false) : Waives prog w A E "list.__eq__" u (.ref b) s := fun Q q => by
  refine wpAny_call_entry F.slot_list_eq hT F.entry_list_eq ?_ (F.args_list_eq_2 _ _)
  obtain ⟨hp, g, d, tk, os⟩ := s
  repeat (first | with_reducible refine PySem.W.Looks.at inst ?_ | wp_step)
  all_goals exact ⟨_, rfl, q⟩
theorem waive_list_ne {u : Value} (hT : s.TypeIs u "list") (inst : PySem.W.Looks (model prog w) s.heap (isInstance (.ref b) (.type "list")) false) : Waives prog w A E "list.__ne__" u (.ref b) s := fun Q q => by
  refine wpAny_call_entry F.slot_list_ne hT F.entry_list_ne ?_ (F.args_list_ne_2 _ _)
  obtain ⟨hp, g, d, tk, os⟩ := s
  repeat (first | with_reducible refine PySem.W.Looks.at inst ?_ | wp_step)
  all_goals exact ⟨_, rfl, q⟩
theorem waive_tuple_eq {u : Value} (hT : s.TypeIs u "tuple") (inst : PySem.W.Looks (model prog w) s.heap (isInstance (.ref b) (.type "tuple")) false) : Waives prog w A E "tuple.__eq__" u (.ref b) s := fun Q q => by
  refine wpAny_call_entry F.slot_tuple_eq hT F.entry_tuple_eq ?_ (F.args_tuple_eq_2 _ _)
  obtain ⟨hp, g, d, tk, os⟩ := s
  repeat (first | with_reducible refine PySem.W.Looks.at inst ?_ | wp_step)
  all_goals exact ⟨_, rfl, q⟩
theorem waive_tuple_ne {u : Value} (hT : s.TypeIs u "tuple") (inst : PySem.W.Looks (model prog w) s.heap (isInstance (.ref b) (.type "tuple")) false) : Waives prog w A E "tuple.__ne__" u (.ref b) s := fun Q q => by
  refine wpAny_call_entry F.slot_tuple_ne hT F.entry_tuple_ne ?_ (F.args_tuple_ne_2 _ _)
  obtain ⟨hp, g, d, tk, os⟩ := s
  repeat (first | with_reducible refine PySem.W.Looks.at inst ?_ | wp_step)
  all_goals exact ⟨_, rfl, q⟩
theorem waive_dict_eq {u : Value} (hT : s.TypeIs u "dict") (inst : PySem.W.Looks (model prog w) s.heap (isInstance (.ref b) (.type "dict")) false) : Waives prog w A E "dict.__eq__" u (.ref b) s := fun Q q => by
  refine wpAny_call_entry F.slot_dict_eq hT F.entry_dict_eq ?_ (F.args_dict_eq_2 _ _)
  obtain ⟨hp, g, d, tk, os⟩ := s
  repeat (first | with_reducible refine PySem.W.Looks.at inst ?_ | wp_step)
  all_goals exact ⟨_, rfl, q⟩
theorem waive_dict_ne {u : Value} (hT : s.TypeIs u "dict") (inst : PySem.W.Looks (model prog w) s.heap (isInstance (.ref b) (.type "dict")) false) : Waives prog w A E "dict.__ne__" u (.ref b) s := fun Q q => by
  refine wpAny_call_entry F.slot_dict_ne hT F.entry_dict_ne ?_ (F.args_dict_ne_2 _ _)
  obtain ⟨hp, g, d, tk, os⟩ := s
  repeat (first | with_reducible refine PySem.W.Looks.at inst ?_ | wp_step)
  all_goals exact ⟨_, rfl, q⟩
theorem waive_str_eq (x : Str) (t : Tok) {dx : Addr} (hb : s.heap.get? b = some (PySem.W.instObj C dx)) : Waives prog w A E "str.__eq__" (.str x t) (.ref b) s := fun Q q => by
  refine wpAny_call_entry F.slot_str_eq rfl F.entry_str_eq ?_ (F.args_str_eq_2 _ _)
  obtain ⟨hp, g, d, tk, os⟩ := s
  wp_walk using PySem.AutoSeq1.wpAny_loadPart' hb
  all_goals exact ⟨_, rfl, q⟩
theorem waive_str_ne (x : Str) (t : Tok) {dx : Addr} (hb : s.heap.get? b = some (PySem.W.instObj C dx)) : Waives prog w A E "str.__ne__" (.str x t) (.ref b) s := fun Q q => by
  refine wpAny_call_entry F.slot_str_ne rfl F.entry_str_ne ?_ (F.args_str_ne_2 _ _)
  obtain ⟨hp, g, d, tk, os⟩ := s
  wp_walk using PySem.AutoSeq1.wpAny_loadPart' hb
  all_goals exact ⟨_, rfl, q⟩
theorem waive_int_eq (x : Int) (t : Tok) {dx : Addr} (hb : s.heap.get? b = some (PySem.W.instObj C dx)) : Waives prog w A E "int.__eq__" (.int x t) (.ref b) s := fun Q q => by
  refine wpAny_call_entry F.slot_int_eq rfl F.entry_int_eq ?_ (F.args_int_eq_2 _ _)
  obtain ⟨hp, g, d, tk, os⟩ := s
  wp_walk using PySem.AutoSeq1.wpAny_loadPart' hb
  all_goals exact ⟨_, rfl, q⟩
theorem waive_int_ne (x : Int) (t : Tok) {dx : Addr} (hb : s.heap.get? b = some (PySem.W.instObj C dx)) : Waives prog w A E "int.__ne__" (.int x t) (.ref b) s := fun Q q => by
  refine wpAny_call_entry F.slot_int_ne rfl F.entry_int_ne ?_ (F.args_int_ne_2 _ _)
  obtain ⟨hp, g, d, tk, os⟩ := s
  wp_walk using PySem.AutoSeq1.wpAny_loadPart' hb
  all_goals exact ⟨_, rfl, q⟩
end
/-! ### the kinds of other things -/
def oddT : List String := ["list", "tuple", "dict", "str", "int", "NoneType"]
/-- an own class that is none of the builtin kinds, and none of them is of it -/
def OddC (K : PySem.W.Frag) (C : Addr) : Prop := (oddT.all fun T => (PySem.W.subIn K (.ref C) (.type T) == some false) && (PySem.W.subIn K (.type T) (.ref C) == some false)) = true
theorem OddC.at_ {K : PySem.W.Frag} {C : Addr} (h : OddC K C) {T : String} (m : T ∈ oddT) : PySem.W.subIn K (.ref C) (.type T) = some false ∧ PySem.W.subIn K (.type T) (.ref C) = some false := by
  have := List.all_eq_true.mp h T m
  rw [Bool.and_eq_true] at this
  exact ⟨beq_iff_eq.mp this.1, beq_iff_eq.mp this.2⟩
inductive OddV (K : PySem.W.Frag) (H : Hp) : V → Prop
  | non : OddV K H .non
  | int (i : Int) : OddV K H (.int i)
  | str (x : Str) : OddV K H (.str x)
  | lst {p : Addr} {xs : List V} : SqL K H p xs → OddV K H (.ref p)
  | tup {p : Addr} {xs : List V} : SqT K H p xs → OddV K H (.ref p)
  | dic {p : Addr} {kvs : List (Key × V)} : L2.Rd H p (.dK kvs) → OddV K H (.ref p)
structure Odd (X : Cx) (s : Shared) (C b : Addr) (u : Value) where
  T : String
  ide : String
  idn : String
  ty : s.TypeIs u T
  eq : Slot T (cmpInfo .Eq).2.1 ide
  ne : Slot T (cmpInfo .NotEq).2.1 idn
  mem : T ∈ oddT
  weq : ∀ A E, Waives X.prog X.w A E ide u (.ref b) s
  wne : ∀ A E, Waives X.prog X.w A E idn u (.ref b) s
section
variable {X : Cx} {pins : List (Addr × Obj)} {σ : L2.St} {H : Hp} {s : Shared} {C b dx : Addr} {od : Option Obj}
theorem odd_of (I : Inv X pins σ H s) (hb : s.heap.get? b = some (PySem.W.instObj C dx)) (O : OddC X.K C) (tb : PySem.W.Looks (model X.prog X.w) s.heap (typeOf (.ref b)) (.ref C)) {x : V} {u : Value} (o : OddV X.K H x) (r : RelV x u) : Nonempty (Odd X s C b u) := by
  have inst : ∀ T, T ∈ oddT → PySem.W.Looks (model X.prog X.w) s.heap (isInstance (.ref b) (.type T)) false := fun T m => tb.andThen (PySem.W.looks_subIn I.kIn (O.at_ m).1)
  cases o with
  | non =>
    cases r
    exact ⟨⟨"NoneType", _, _, rfl, F.slot_NoneType_eq, F.slot_NoneType_ne, by simp [oddT], fun _ _ => waive_none_eq, fun _ _ => waive_none_ne⟩⟩
  | int i =>
    obtain ⟨t, rfl⟩ := r
    exact ⟨⟨"int", _, _, rfl, F.slot_int_eq, F.slot_int_ne, by simp [oddT], fun _ _ => waive_int_eq i t hb, fun _ _ => waive_int_ne i t hb⟩⟩
  | str z =>
    obtain ⟨t, rfl⟩ := r
    exact ⟨⟨"str", _, _, rfl, F.slot_str_eq, F.slot_str_ne, by simp [oddT], fun _ _ => waive_str_eq z t hb, fun _ _ => waive_str_ne z t hb⟩⟩
  | lst e =>
    cases r
    obtain ⟨its, _, ⟨o, n, ho, hc, _⟩, _⟩ := I.list e
    have hT : s.TypeIs (.ref _) "list" := ⟨o, ho, hc⟩
    exact ⟨⟨"list", _, _, hT, F.slot_list_eq, F.slot_list_ne, by simp [oddT], fun _ _ => waive_list_eq hT (inst _ (by simp [oddT])), fun _ _ => waive_list_ne hT (inst _ (by simp [oddT]))⟩⟩
  | tup e =>
    cases r
    obtain ⟨its, _, ⟨o, ho, hc, _⟩, _⟩ := I.tuple e
    have hT : s.TypeIs (.ref _) "tuple" := ⟨o, ho, hc⟩
    exact ⟨⟨"tuple", _, _, hT, F.slot_tuple_eq, F.slot_tuple_ne, by simp [oddT], fun _ _ => waive_tuple_eq hT (inst _ (by simp [oddT])), fun _ _ => waive_tuple_ne hT (inst _ (by simp [oddT]))⟩⟩
  | @dic p kvs e =>
    cases r
    have hT : s.TypeIs (.ref p) "dict" := dict_typeIs I (y := kV (.inl 0)) (.inl ⟨kvs, .inl 0, e, rfl, rfl⟩)
    exact ⟨⟨"dict", _, _, hT, F.slot_dict_eq, F.slot_dict_ne, by simp [oddT], fun _ _ => waive_dict_eq hT (inst _ (by simp [oddT])), fun _ _ => waive_dict_ne hT (inst _ (by simp [oddT]))⟩⟩
end
/-! ### compared -/
/-- an own thing and another kind of thing; way = true: the own one stands to the left -/
def rOwnOdd (K : PySem.W.Frag) (way neg : Bool) (C : Addr) (sp : Sp) : R2 := fun x y H Q => ∃ (b dy : Addr) (gs : List (Str × V)) (z : V), (if way = true then x = .ref b ∧ y = z else x = z ∧ y = .ref b) ∧ H b = some (.ins C dy gs) ∧ OddV K H z ∧
  sp [.ref b, z] H (fun v H' => ∃ r, v = .bl r ∧ Q (.bl (if neg = true then !r else r)) H') E0
section
variable {X : Cx} {k : Nat} {f C : Addr} {ps : List Str} {Pf : FS} {pins : List (Addr × Obj)} {σ : L2.St} {H : Hp} {s : Shared} {Q : VK}
/-- the own == is called -/
theorem odd_run {neg : Bool} (D : Def X.prog X.w X.K X.mg X.base k f ps Pf) (hr : Room k X.A) (I : Inv X pins σ H s) {a : Addr} {z : V} {u : Value} (rz : RelV z u)
    (q : spOf X.K Pf [.ref a, z] H (fun v H' => ∃ r, v = .bl r ∧ Q (.bl (if neg = true then !r else r)) H') E0) (B : Around) (hB : X.A.in1 = B ∧ Room (k + 1) X.A ∨ X.A = B) :
    wpAny (model X.prog X.w) B (call (.ref f) [.ref a, u]) (fun v s' => ∃ c, v = .bool c ∧ EP X pins σ Q (.bool (if neg = true then !c else c)) s') X.xe s := by
  obtain ⟨fd, F, hb, _⟩ := D
  have hl := F.len _ _ _ _ q
  have r2 : Vals [V.ref a, z] [Value.ref a, u] := .cons rfl (.cons rz .nil)
  rcases hB with ⟨rfl, hr1⟩ | rfl
  · refine wpAny_call (codeAny_mono (F.run X.A.in1 X.stack s H ⟨[.ref a, u], []⟩ [.ref a, u] [.ref a, z] _ E0 hr1.in1 I.env0.in1 (by
      have := hb s [.ref a, u] I.kIn (by simpa using hl)
      simpa using this) r2 q) fun r s' hq => ?_)
    cases r with
    | error e => exact hq.elim
    | ok fl =>
      cases fl with
      | ret w =>
        obtain ⟨z, H', I', rz, r, ez, q2⟩ := I.after hq
        subst ez
        cases rz
        exact ⟨r, rfl, .bl _, H', I', rfl, q2⟩
      | next => exact False.elim hq
      | brk => exact False.elim hq
      | cont => exact False.elim hq
  · refine wpAny_call (codeAny_mono (F.run X.A X.stack s H ⟨[.ref a, u], []⟩ [.ref a, u] [.ref a, z] _ E0 hr I.env0 (by
      have := hb s [.ref a, u] I.kIn (by simpa using hl)
      simpa using this) r2 q) fun r s' hq => ?_)
    cases r with
    | error e => exact hq.elim
    | ok fl =>
      cases fl with
      | ret w =>
        obtain ⟨z, H', I', rz, r, ez, q2⟩ := I.after hq
        subst ez
        cases rz
        exact ⟨r, rfl, .bl _, H', I', rfl, q2⟩
      | next => exact False.elim hq
      | brk => exact False.elim hq
      | cont => exact False.elim hq
/-- the own == is tried -/
theorem odd_try (hs : PySem.W.findIn X.K (.ref C) "__eq__" = some (some (.ref f)) ∧ PySem.W.isFn X.K (.ref f) = true) (D : Def X.prog X.w X.K X.mg X.base k f ps Pf) (hr : Room k X.A) (I : Inv X pins σ H s) {a dx : Addr} {fs : List (Str × V)} (ha : H a = some (.ins C dx fs)) {z : V} {u : Value} (rz : RelV z u)
    (q : spOf X.K Pf [.ref a, z] H (fun v H' => ∃ r, v = .bl r ∧ Q (.bl r) H') E0) : wpAny (model X.prog X.w) X.A (tryCompare (.ref a) "__eq__" u) (fun r s' => ∃ v, r = some v ∧ EP X pins σ Q v s') X.xe s := by
  obtain ⟨mA, J, _⟩ := ins_get I.hok ha
  obtain ⟨od, J, _⟩ := J.look
  unfold tryCompare
  refine wpAny_bind (PySem.W.ifBound_K I.kIn J hs.1 hs.2 (wpAny_mono (odd_run (neg := false) (Q := Q) D hr I rz q X.A (.inr rfl)) (fun v s' hv => ?_) fun _ _ e => e))
  obtain ⟨c, rfl, hq⟩ := hv
  exact wpAny_pure ⟨_, rfl, hq⟩
theorem odd_tryN (hs : PySem.W.findIn X.K (.ref C) "__eq__" = some (some (.ref f)) ∧ PySem.W.isFn X.K (.ref f) = true) (N : NeOwn X.K C) (D : Def X.prog X.w X.K X.mg X.base k f ps Pf) (hr : Room (k + 1) X.A) (hr0 : Room k X.A) (I : Inv X pins σ H s) {a dx : Addr} {fs : List (Str × V)} (ha : H a = some (.ins C dx fs)) {z : V} {u : Value} (rz : RelV z u)
    (q : spOf X.K Pf [.ref a, z] H (fun v H' => ∃ r, v = .bl r ∧ Q (.bl (!r)) H') E0) : wpAny (model X.prog X.w) X.A (tryCompare (.ref a) "__ne__" u) (fun r s' => ∃ v, r = some v ∧ EP X pins σ Q v s') X.xe s := by
  obtain ⟨mA, J, _⟩ := ins_get I.hok ha
  obtain ⟨od, J, _⟩ := J.look
  have run := odd_run (neg := true) (Q := Q) D hr0 I rz q X.A.in1 (.inl ⟨rfl, hr⟩)
  have body : wpAny (model X.prog X.w) X.A.in1 (Builtin.«object.__ne__» ⟨[.ref a, u], []⟩) (fun fin s' => ∃ b, fin = .done (.ret (.bool b)) ∧ EP X pins σ Q (.bool b) s') X.xe s := by
    have hu1 : X.A.in1.units < cLine := hr.in1.units0
    have kin := I.kIn
    obtain ⟨hp, g, d, t, os⟩ := s
    unfold Builtin.«object.__ne__»
    repeat (first
      | with_reducible refine wpAny_cRoomFor hu1 ?_
      | (refine wpAny_bind (m := callSpecialIfBound? (.ref a) (Str.ofString "__eq__") [u])
          (PySem.W.ifBound_K kin J hs.1 hs.2 (wpAny_mono run (fun r s' hr => by
            obtain ⟨c, rfl, hq⟩ := hr
            have fin : ∃ b, Fin.done (.ret (.bool (!c))) = .done (.ret (.bool b)) ∧ EP X pins σ Q (.bool b) s' := ⟨!c, rfl, hq⟩
            repeat (first | exact fin | exact wpAny_pure fin | exact wpAny_truthy_bool fin | (refine wpAny_bind (m := truthy (.bool _)) (wpAny_truthy_bool ?_)) | wp_step)) fun _ _ e => e)))
      | wp_step)
  simp only [tryCompare]
  refine wpAny_bind (ifBound_slot (J.type.andThen (PySem.W.looks_findIn I.kIn N.ne)) (PySem.F.cmp_object.ne.bind _) (wpAny_call (codeAny_call_builtin PySem.F.cmp_object.ne.plain PySem.F.cmpEntry_ne
    (PySem.W.check_slot PySem.F.cmpKind_ne PySem.F.cmpSplit_ne (J.type.andThen (PySem.W.looks_mroIn I.kIn N.mro)) (PySem.F.cmpArgs_ne _ _) (wpAny_mono body (fun fin s' hv => ?_) fun _ _ e => e)))))
  obtain ⟨b, rfl, hq⟩ := hv
  first | exact wpAny_pure ⟨_, rfl, hq⟩ | exact wpAny_pure (wpAny_pure ⟨_, rfl, hq⟩) | exact ⟨b, rfl, hq⟩
theorem looks_ty {M : Model} {u : Value} {T : String} (h : s.TypeIs u T) : PySem.W.Looks M s.heap (typeOf u) (.type T) := by
  cases u with
  | ref a =>
    obtain ⟨o, ho, hc⟩ := h
    exact hc ▸ (PySem.W.Looks.ld ho).andThen .now
  | _ => exact PySem.W.Looks.of_pure h
theorem odd_left {op : CmpOp} (hop : op = .Eq ∨ op = .NotEq) (hu : X.A.units < cLine) (I : Inv X pins σ H s) (O : OddC X.K C) {a dx : Addr} {fs : List (Str × V)} (ha : H a = some (.ins C dx fs)) {u : Value} (o : Odd X s C a u) {P : Value → Shared → Prop}
    (h : wpAny (model X.prog X.w) X.A (tryCompare (.ref a) (cmpInfo op).2.1 u) (fun r s' => ∃ v, r = some v ∧ P v s') X.xe s) : wpAny (model X.prog X.w) X.A (richCompare op (.ref a) u) P X.xe s := by
  obtain ⟨mA, J, _⟩ := ins_get I.hok ha
  obtain ⟨od, J, _⟩ := J.look
  unfold richCompare
  simp only [oneThing_ref]
  refine wpAny_holding ?_
  refine wpAny_bind (wpAny_cRoomFor hu ?_)
  refine wpAny_bind (J.type.here (wpAny_bind ((looks_ty o.ty).here ?_)))
  rw [show (Value.ref C != Value.type o.T) = true from rfl]
  simp only [if_true]
  refine wpAny_bind ((PySem.W.looks_subIn I.kIn (O.at_ o.mem).2).here ?_)
  simp only [Bool.false_eq_true, if_false]
  refine wpAny_bind (wpAny_mono h (fun r s' hv => ?_) fun _ _ e => e)
  obtain ⟨v, rfl, hq⟩ := hv
  first | exact wpAny_pure hq | exact wpAny_pure (wpAny_pure hq)
theorem odd_rightE (hu : X.A.units < cLine) (I : Inv X pins σ H s) (O : OddC X.K C) {a dx : Addr} {fs : List (Str × V)} (ha : H a = some (.ins C dx fs)) {u : Value} (o : Odd X s C a u) {P : Value → Shared → Prop}
    (h : wpAny (model X.prog X.w) X.A (tryCompare (.ref a) "__eq__" u) (fun r s' => ∃ v, r = some v ∧ P v s') X.xe s) : wpAny (model X.prog X.w) X.A (richCompare .Eq u (.ref a)) P X.xe s := by
  obtain ⟨mA, J, _⟩ := ins_get I.hok ha
  obtain ⟨od, J, _⟩ := J.look
  have h1 := o.eq
  rcases hi : cmpInfo CmpOp.Eq with ⟨sym, f, r⟩
  rw [hi] at h1
  have er : r = "__eq__" := by
    have := congrArg (fun x => x.2.2) hi
    exact this.symm
  subst er
  simp only [richCompare, hi, o.ty.oneThing_none]
  refine wpAny_holding ?_
  refine wpAny_bind (wpAny_cRoomFor hu ?_)
  refine wpAny_bind (wpAny_typeOf o.ty (wpAny_bind (J.type.here ?_)))
  rw [show (Value.type o.T != Value.ref C) = true from rfl]
  simp only [if_true]
  refine wpAny_bind ((PySem.W.looks_subIn I.kIn (O.at_ o.mem).1).here ?_)
  simp only [Bool.false_eq_true, if_false, Bool.not_false, if_true]
  refine wpAny_bind (m := tryCompare u _ (.ref a)) (wpAny_tryCompare_declines o.ty h1 (o.weq _ _ _ ⟨rfl, ?_⟩))
  refine wpAny_bind (wpAny_mono h (fun r s' hv => ?_) fun _ _ e => e)
  obtain ⟨v, rfl, hq⟩ := hv
  first | exact wpAny_pure hq | exact wpAny_pure (wpAny_pure hq)
theorem odd_rightN (hu : X.A.units < cLine) (I : Inv X pins σ H s) (O : OddC X.K C) {a dx : Addr} {fs : List (Str × V)} (ha : H a = some (.ins C dx fs)) {u : Value} (o : Odd X s C a u) {P : Value → Shared → Prop}
    (h : wpAny (model X.prog X.w) X.A (tryCompare (.ref a) "__ne__" u) (fun r s' => ∃ v, r = some v ∧ P v s') X.xe s) : wpAny (model X.prog X.w) X.A (richCompare .NotEq u (.ref a)) P X.xe s := by
  obtain ⟨mA, J, _⟩ := ins_get I.hok ha
  obtain ⟨od, J, _⟩ := J.look
  have h1 := o.ne
  rcases hi : cmpInfo CmpOp.NotEq with ⟨sym, f, r⟩
  rw [hi] at h1
  have er : r = "__ne__" := by
    have := congrArg (fun x => x.2.2) hi
    exact this.symm
  subst er
  simp only [richCompare, hi, o.ty.oneThing_none]
  refine wpAny_holding ?_
  refine wpAny_bind (wpAny_cRoomFor hu ?_)
  refine wpAny_bind (wpAny_typeOf o.ty (wpAny_bind (J.type.here ?_)))
  rw [show (Value.type o.T != Value.ref C) = true from rfl]
  simp only [if_true]
  refine wpAny_bind ((PySem.W.looks_subIn I.kIn (O.at_ o.mem).1).here ?_)
  simp only [Bool.false_eq_true, if_false, Bool.not_false, if_true]
  refine wpAny_bind (m := tryCompare u _ (.ref a)) (wpAny_tryCompare_declines o.ty h1 (o.wne _ _ _ ⟨rfl, ?_⟩))
  refine wpAny_bind (wpAny_mono h (fun r s' hv => ?_) fun _ _ e => e)
  obtain ⟨v, rfl, hq⟩ := hv
  first | exact wpAny_pure hq | exact wpAny_pure (wpAny_pure hq)
theorem op_oddEq {way : Bool} (hs : PySem.W.findIn X.K (.ref C) "__eq__" = some (some (.ref f)) ∧ PySem.W.isFn X.K (.ref f) = true) (O : OddC X.K C) (D : Def X.prog X.w X.K X.mg X.base k f ps Pf) (hr : Room k X.A) : OpR X (compareOp .Eq) (rOwnOdd X.K way false C (spOf X.K Pf)) := by
  intro pins s σ H x y v u Q I rx ry h
  obtain ⟨b, dy, gs, z, e, hb, oz, q⟩ := h
  have J0 := (show ObjOk X.prog X.w H s.heap b (.ins C dy gs) from I.hok b _ hb)
  obtain ⟨mA, J, _⟩ := ins_get I.hok hb
  obtain ⟨od, J, _⟩ := J.look
  cases way with
  | true =>
    obtain ⟨rfl, rfl⟩ := e
    cases rx
    obtain ⟨o⟩ := odd_of I J0.2.2.2.1 O J.type oz ry
    exact odd_left (.inl rfl) hr.units0 I O hb o (odd_try hs D hr I hb ry q)
  | false =>
    obtain ⟨rfl, rfl⟩ := e
    cases ry
    obtain ⟨o⟩ := odd_of I J0.2.2.2.1 O J.type oz rx
    exact odd_rightE hr.units0 I O hb o (odd_try hs D hr I hb rx q)
theorem op_oddNe {way : Bool} (hs : PySem.W.findIn X.K (.ref C) "__eq__" = some (some (.ref f)) ∧ PySem.W.isFn X.K (.ref f) = true) (N : NeOwn X.K C) (O : OddC X.K C) (D : Def X.prog X.w X.K X.mg X.base k f ps Pf) (hr0 : Room k X.A) (hr : Room (k + 1) X.A) : OpR X (compareOp .NotEq) (rOwnOdd X.K way true C (spOf X.K Pf)) := by
  intro pins s σ H x y v u Q I rx ry h
  obtain ⟨b, dy, gs, z, e, hb, oz, q⟩ := h
  have J0 := (show ObjOk X.prog X.w H s.heap b (.ins C dy gs) from I.hok b _ hb)
  obtain ⟨mA, J, _⟩ := ins_get I.hok hb
  obtain ⟨od, J, _⟩ := J.look
  cases way with
  | true =>
    obtain ⟨rfl, rfl⟩ := e
    cases rx
    obtain ⟨o⟩ := odd_of I J0.2.2.2.1 O J.type oz ry
    exact odd_left (.inr rfl) hr.units0 I O hb o (odd_tryN hs N D hr hr0 I hb ry q)
  | false =>
    obtain ⟨rfl, rfl⟩ := e
    cases ry
    obtain ⟨o⟩ := odd_of I J0.2.2.2.1 O J.type oz rx
    exact odd_rightN hr.units0 I O hb o (odd_tryN hs N D hr hr0 I hb rx q)
end
theorem kx_oddEq {X : Cx} {k : Nat} {f C : Addr} {ps : List Str} {Pf : FS} {way : Bool} (K : PySem.W.Frag) (hK : X.K = K) (hs : PySem.W.findIn K (.ref C) "__eq__" = some (some (.ref f)) ∧ PySem.W.isFn K (.ref f) = true) (O : OddC K C) (D : Def X.prog X.w K X.mg X.base k f ps Pf) (hr : Room k X.A) : OpR X (compareOp .Eq) (rOwnOdd K way false C (spOf K Pf)) := by
  subst hK; exact op_oddEq hs O D hr
theorem kx_oddNe {X : Cx} {k : Nat} {f C : Addr} {ps : List Str} {Pf : FS} {way : Bool} (K : PySem.W.Frag) (hK : X.K = K) (hs : PySem.W.findIn K (.ref C) "__eq__" = some (some (.ref f)) ∧ PySem.W.isFn K (.ref f) = true) (N : NeOwn K C) (O : OddC K C) (D : Def X.prog X.w K X.mg X.base k f ps Pf) (hr0 : Room k X.A) (hr : Room (k + 1) X.A) : OpR X (compareOp .NotEq) (rOwnOdd K way true C (spOf K Pf)) := by
  subst hK; exact op_oddNe hs N O D hr0 hr
/-! ### told of data and cells -/
section
variable {K : PySem.W.Frag} {m : Mem} {Q : D → Mem → Prop} {C : Addr} {Pf : FS} {fs : List (Str × D)}
/-- a thing of no own class: data, or a cell -/
def OddD (m : Mem) : D → Prop
  | .non => True
  | .int _ => True
  | .str _ => True
  | .lst _ => True
  | .tup _ => True
  | .dic _ => True
  | .adr p => (∃ ds, MAt m p (.lst ds)) ∨ ∃ kvs, MAt m p (.dic kvs)
  | _ => False
theorem OddD.v {H : Hp} {d : D} {v : V} (h : OddD m d) (M : MemOk K m H) (r : Rd K (hide m H) v d) : OddV K H v := by
  cases d with
  | non => cases r; exact .non
  | int i => cases r; exact .int i
  | str x => cases r; exact .str x
  | lst ds => obtain ⟨p, xs, rfl, e, _⟩ := lst_at r; exact .lst (SqL.of e)
  | tup ds => obtain ⟨p, xs, rfl, e, _⟩ := tup_at r; exact .tup e
  | dic kvs => obtain ⟨p, xs, rfl, e, _⟩ := dic_at r; exact .dic (.inl e)
  | adr p =>
    cases r
    rcases h with ⟨ds, i, hm⟩ | ⟨kvs, i, hm⟩
    · obtain ⟨xs, e, _⟩ := cell_at M hm
      exact .lst (SqL.of e)
    · obtain ⟨xs, e, _⟩ := dicM_at M hm
      exact .dic (.inl e)
  | _ => exact h.elim
/-- the own thing to the left -/
theorem ow_oddL {neg : Bool} {d : D} (h : OddD m d) (q : Pf [.ins C fs, d] m fun z m' => ∃ b, z = .bl b ∧ Q (.bl (if neg = true then !b else b)) m') : OW K (rOwnOdd K true neg C (spOf K Pf)) (.ins C fs) d m Q := fun H v w M a b QQ k => by
  obtain ⟨x, dx, xs, rfl, e, nm, r⟩ := ins_at a
  refine ⟨x, dx, xs, w, ⟨rfl, rfl⟩, e, h.v M b, _, m, _, .cons a (.cons b .nil), M, q, fun d m' v H' ⟨z, ed, q⟩ s2 M2 r2 => ?_⟩
  subst ed
  cases r2
  exact ⟨z, rfl, k _ m' _ H' q s2 M2 (.bl _)⟩
theorem ow_oddR {neg : Bool} {d : D} (h : OddD m d) (q : Pf [.ins C fs, d] m fun z m' => ∃ b, z = .bl b ∧ Q (.bl (if neg = true then !b else b)) m') : OW K (rOwnOdd K false neg C (spOf K Pf)) d (.ins C fs) m Q := fun H v w M a b QQ k => by
  obtain ⟨x, dx, xs, rfl, e, nm, r⟩ := ins_at b
  refine ⟨x, dx, xs, v, ⟨rfl, rfl⟩, e, h.v M a, _, m, _, .cons b (.cons a .nil), M, q, fun d m' v H' ⟨z, ed, q⟩ s2 M2 r2 => ?_⟩
  subst ed
  cases r2
  exact ⟨z, rfl, k _ m' _ H' q s2 M2 (.bl _)⟩
/-- isinstance of an own class, of a builtin kind -/
def OddI (K : PySem.W.Frag) (E : Addr) : Prop := (oddT.all fun T => PySem.W.kitOne K (.type T) (.ref E) == some false) = true
theorem OddI.at_ {E : Addr} (h : OddI K E) {T : String} (m : T ∈ oddT) : PySem.W.kitOne K (.type T) (.ref E) = some false := beq_iff_eq.mp (List.all_eq_true.mp h T m)
theorem cw_isiOdd {d : D} {E : Addr} (h : OddD m d) (hk : OddI K E) (q : Q (.bl false) m) : CW K (rIsi K) [d, .adr E] m Q := fun H vs M a QQ k => by
  cases a with
  | cons a a2 =>
    cases a2 with
    | cons a2 a3 =>
      cases a3
      cases a2
      have fin := k _ m _ H q (Sub.refl _) M (.bl false)
      cases d with
      | non => cases a; exact ⟨_, _, _, _, false, rfl, .own E, .base .non, hk.at_ (by simp [oddT]), fin⟩
      | int i => cases a; exact ⟨_, _, _, _, false, rfl, .own E, .base (.int i), hk.at_ (by simp [oddT]), fin⟩
      | str x => cases a; exact ⟨_, _, _, _, false, rfl, .own E, .base (.str x), hk.at_ (by simp [oddT]), fin⟩
      | lst ds =>
        obtain ⟨p, xs, rfl, e, r⟩ := lst_at a
        exact ⟨_, _, _, _, false, rfl, .own E, .base (.lst e), hk.at_ (by simp [oddT]), fin⟩
      | tup ds =>
        obtain ⟨p, xs, rfl, e, r⟩ := tup_at a
        rcases e with e | ⟨o, its, n, lk, oc, _⟩
        · rcases e with e | ⟨o, e⟩
          · exact ⟨_, _, _, _, false, rfl, .own E, .base (.tup e), hk.at_ (by simp [oddT]), fin⟩
          · exact ⟨_, _, _, _, false, rfl, .own E, .fTuple e, hk.at_ (by simp [oddT]), fin⟩
        · exact ⟨_, _, _, _, false, rfl, .own E, .kTuple lk oc, hk.at_ (by simp [oddT]), fin⟩
      | dic kvs =>
        obtain ⟨p, xs, rfl, e, _⟩ := dic_at a
        exact ⟨_, _, _, _, false, rfl, .own E, .base (.dK e), hk.at_ (by simp [oddT]), fin⟩
      | adr p =>
        cases a
        rcases h with ⟨ds, i, hm⟩ | ⟨kvs, i, hm⟩
        · obtain ⟨xs, e, _⟩ := cell_at M hm
          exact ⟨_, _, _, _, false, rfl, .own E, .base (.lst e), hk.at_ (by simp [oddT]), fin⟩
        · obtain ⟨xs, e, _⟩ := dicM_at M hm
          exact ⟨_, _, _, _, false, rfl, .own E, .base (.dK e), hk.at_ (by simp [oddT]), fin⟩
      | _ => exact h.elim
end
end DL

set_option Elab.async false
set_option linter.all false
set_option maxRecDepth 100000
set_option maxHeartbeats 2000000
set_option autoImplicit false
/-! set(xs) of a list of texts, some of them alike; its length. -/
namespace DL
open PySem PySem.Spec PyProof.Rows L2
theorem rev_ind {α : Type} {P : List α → Prop} (h0 : P []) (h1 : ∀ xs x, P xs → P (xs ++ [x])) (xs : List α) : P xs := by
  have key : ∀ l : List α, P l.reverse := fun l => by
    induction l with
    | nil => exact h0
    | cons a l ih => rw [List.reverse_cons]; exact h1 _ _ ih
  have := key xs.reverse
  rwa [List.reverse_reverse] at this
/-- each of them once, as first met -/
def once {κ : Type} [DecidableEq κ] (xs : List κ) : List κ := xs.foldl (fun l x => if x ∈ l then l else l ++ [x]) []
theorem once_snoc {κ : Type} [DecidableEq κ] (xs : List κ) (x : κ) : once (xs ++ [x]) = if x ∈ once xs then once xs else once xs ++ [x] := by
  unfold once
  rw [List.foldl_append]
  rfl
theorem once_take {κ : Type} [DecidableEq κ] {xs : List κ} {i : Nat} {x : κ} (h : xs[i]? = some x) : once (xs.take (i + 1)) = if x ∈ once (xs.take i) then once (xs.take i) else once (xs.take i) ++ [x] := by
  rw [List.take_add_one, h]
  exact once_snoc _ _
theorem once_len {κ : Type} [DecidableEq κ] (xs : List κ) : (once xs).length ≤ xs.length := by
  induction xs using rev_ind with
  | h0 => exact Nat.le_refl _
  | h1 xs x ih =>
    rw [once_snoc, List.length_append, List.length_singleton]
    split
    · omega
    · rw [List.length_append, List.length_singleton]; omega
theorem once_mem {κ : Type} [DecidableEq κ] (xs : List κ) (y : κ) : y ∈ once xs ↔ y ∈ xs := by
  induction xs using rev_ind with
  | h0 => rfl
  | h1 xs x ih =>
    rw [once_snoc, List.mem_append, List.mem_singleton, ← ih]
    split
    · rename_i h
      exact ⟨.inl, fun q => q.elim id fun e => e ▸ h⟩
    · rw [List.mem_append, List.mem_singleton]
/-- fewer exactly if some stand twice -/
theorem once_lt {κ : Type} [DecidableEq κ] (xs : List κ) : (once xs).length < xs.length ↔ ¬ xs.Nodup := by
  have key : (once xs).length = xs.length ↔ xs.Nodup := by
    induction xs using rev_ind with
    | h0 => exact ⟨fun _ => List.nodup_nil, fun _ => rfl⟩
    | h1 xs x ih =>
      have hl := once_len xs
      rw [once_snoc, List.length_append, List.length_singleton]
      split
      · rename_i h
        refine ⟨fun q => by omega, fun q => ?_⟩
        exact absurd rfl ((List.nodup_append.mp q).2.2 x ((once_mem xs x).mp h) x (List.mem_singleton.mpr rfl))
      · rename_i h
        rw [List.length_append, List.length_singleton, Nat.add_right_cancel_iff, ih]
        refine ⟨fun q => List.nodup_append.mpr ⟨q, List.pairwise_singleton _ _, fun a ha b hb e => h ((once_mem xs x).mpr (by rw [List.mem_singleton] at hb; rw [← hb, ← e]; exact ha))⟩, fun q => (List.nodup_append.mp q).1⟩
  have hl := once_len xs
  constructor
  · intro q z
    have := key.mpr z
    omega
  · intro q
    have : (once xs).length ≠ xs.length := fun z => q (key.mp z)
    omega
section
variable {prog : Program} {w : World} {A : Around} {κ : Type} [DecidableEq κ] {knd : KeyKind prog w κ}
theorem set_as {h : Heap} {a : Addr} {S T : κ → Bool} {n m : Nat} (R : h.SetOf knd a S n) (e : ∀ y, S y = T y) (q : n = m) : h.SetOf knd a T m := by
  cases (funext e : S = T)
  cases q
  exact R
theorem set_keeps {h h' : Heap} {a : Addr} {S : κ → Bool} {n : Nat} (R : h.SetOf knd a S n) (k : ∀ o, h.get? a = some o → h'.get? a = some o) : h'.SetOf knd a S n :=
  let ⟨o, es, ep, t, ho, rest⟩ := R
  ⟨o, es, ep, t, k o ho, rest⟩
/-- the items of a walk are put into the set at Z, one by one -/
theorem add_each {R : Result → Shared → Prop} {I : Addr} {fp wr : List Addr} {G : Array GenState → Array GenState → Prop} {n : Nat} {Pv : Nat → Value → Prop} {St : Nat → Shared → Prop} (W : WalksS prog w A.in1 I fp wr G n Pv St) (Z : Addr) (hZ : Z ∉ fp)
    (xs : List κ) (hn : xs.length = n) (hb : n + 1 < scanBound) (hv : ∀ i v, Pv i v → ∃ y, xs[i]? = some y ∧ knd.is y v = true ∧ v.scannable = true) :
    ∀ (rest i : Nat) (s : Shared), n - i = rest → i ≤ n → St i s → s.heap.SetOf knd Z (fun y => decide (y ∈ once (xs.take i))) (once (xs.take i)).length →
      (∀ s', Moved (Z :: wr) G s s' → s'.heap.SetOf knd Z (fun y => decide (y ∈ once xs)) (once xs).length → R (.ok (.ret .none)) s') →
      codeAny (model prog w) A (.builtin "set.update.loop" ⟨[.ref Z, .ref I], []⟩) R s := by
  have out : Z ∉ wr := fun z => hZ (W.sub _ z)
  have up : ∀ b ∈ wr, b ∈ Z :: wr := fun b z => .tail _ z
  intro rest
  induction rest with
  | zero =>
    intro i s er hi st has fin
    obtain rfl : i = n := by omega
    refine codeAny_builtin F.entry_set_update_loop (by rw [Around.under_plainId F.plain_set_update_loop _]; exact wpAny_bind (W.done s _ _ st fun s1 mv => wpAny_pure (fin s1 (mv.mono up) (set_keeps (set_as has (fun y => by rw [List.take_of_length_le (by omega)]) (by rw [List.take_of_length_le (by omega)])) fun o ho => mv.heap Z o out ho))))
  | succ rest ih =>
    intro i s er hi st has fin
    have lt : i < n := by omega
    refine codeAny_builtin F.entry_set_update_loop (by
      rw [Around.under_plainId F.plain_set_update_loop _]
      refine wpAny_bind (W.item i s _ _ lt st fun v s1 pv st1 mv => ?_)
      obtain ⟨y, ey, ky, sy⟩ := hv i v pv
      have has1 := set_keeps has fun o ho => mv.heap Z o out ho
      have room : (once (xs.take i)).length + 1 < scanBound := by have := once_len (xs.take i); rw [List.length_take] at this; omega
      refine wpAny_bind (wpAny_holding (by
        unfold setAdd
        refine wpAny_holding (wpAny_bind (knd.pyHash ky (wpAny_setAddHashed_of (s := { s1 with toks := s1.toks + 1 }) ky sy has1 room fun h2 sb has2 => ?_)))
        have has3 : h2.SetOf knd Z (fun z => decide (z ∈ once (xs.take (i + 1)))) (once (xs.take (i + 1))).length := set_as has2 (fun z => by
          rw [once_take ey]
          by_cases q : y ∈ once (xs.take i)
          · rw [if_pos q]
            by_cases e : z = y
            · subst e; simp [q]
            · simp [e]
          · rw [if_neg q]; simp) (by
          rw [once_take ey]
          by_cases q : y ∈ once (xs.take i)
          · simp [q]
          · simp [q])
        refine wpAny_pure ⟨plainId_quiet F.plain_set_update_loop _, ih (i + 1) _ (by omega) lt (W.frame _ s1 _ _ st1 (Nat.le_succ _) fun b z o e => (sb.2 b fun q : b = Z => hZ (q ▸ z)).trans e) has3 fun s3 mv3 has4 => fin s3 (Moved.trans W.gtrans ((mv.mono up).then_heap (Nat.le_succ _) fun b o z e => (sb.2 b fun q : b = Z => z (q ▸ .head _)).trans e) mv3) has4⟩)))
abbrev noneYet (led : Bool) : Obj := { cls := .type "set", dict := none, data := .set #[] 0 (.fresh 0 0 led) }
/-- set(xs), xs a list of keys of one kind -/
theorem set_of_list {E : Value → Shared → Prop} {s : Shared} {l : Addr} {items : Array Value} {Q : Value → Shared → Prop} (hh : A.handled = none) (hl : s.heap.IsList l items) (xs : List κ) (hn : xs.length = items.size) (hb : items.size + 1 < scanBound)
    (hv : ∀ (i : Nat) (v : Value), items[i]? = some v → ∃ y : κ, xs[i]? = some y ∧ knd.is y v = true ∧ v.scannable = true)
    (h : ∀ (h' : Heap) (tk : Nat), h'.SetOf knd s.heap.objs.size (fun y => decide (y ∈ once xs)) (once xs).length → (∀ b o, s.heap.get? b = some o → h'.get? b = some o) → Q (.ref s.heap.objs.size) { s with heap := h', toks := tk }) :
    wpAny (model prog w) A (call (.type "set") [.ref l]) Q E s := by
  have T := PySem.F.called_set
  obtain ⟨_, _, hmro⟩ := T.mro
  have t1 := T.made
  have t2 := T.sub
  have t3 := T.notType
  have t4 := T.canCreate
  have t5 := PySem.F.typeCall_set_1 (.ref l)
  refine wpAny_call (codeAny_of_tree (show wpAny _ _ (callAny (.type "set") _) _ _ _ from wpAny_pure ⟨Code.quiet_builtin _ (by decide +kernel), codeAny_builtin PySem.F.entry_type_call ?_⟩))
  rw [Around.under_plain (weight_type_call_type "set" [.ref l] []) rfl]
  repeat (any_goals (first | assumption | wp_step))
  refine codeAny_mono (code_set_new_1 (.ref l) (E := E) (Q₁ := fun u s1 => ∃ led, u = .ref s.heap.objs.size ∧ s1 = { s with heap := s.heap.push (noneYet led) }) fun led => ⟨led, rfl, rfl⟩) fun r s1 hr => ?_
  match r, hr with
  | .error _, hr => exact hr
  | .ok .next, hr => exact hr.elim
  | .ok .brk, hr => exact hr.elim
  | .ok .cont, hr => exact hr.elim
  | .ok (.ret _), ⟨led, e1, e2⟩ =>
    subst e1
    subst e2
    have at0 : (s.heap.push (noneYet led)).get? s.heap.objs.size = some (noneYet led) := Heap.get?_push_size _ rfl
    have ty0 : Shared.TypeIs { s with heap := s.heap.push (noneYet led) } (.ref s.heap.objs.size) "set" := ⟨_, at0, rfl⟩
    have t6 := T.init.lookup
    have t7 := T.init.bind (.ref s.heap.objs.size)
    repeat (any_goals (first | assumption | wp_step))
    refine codeAny_mono (codeAny_call_builtin (R := wants (fun r s2 => r = .none ∧ ∃ h' tk, s2 = { s with heap := h', toks := tk } ∧ h'.SetOf knd s.heap.objs.size (fun y => decide (y ∈ once xs)) (once xs).length ∧ ∀ b o, s.heap.get? b = some o → h'.get? b = some o) E) T.init.plain PySem.F.entry_set_init (check_set_init_1 ty0 ?_)) fun r2 s2 hr2 => ?_
    · obtain ⟨⟨lc, ld, lo, ls⟩, hol, hcl, nl, hdl⟩ := hl
      cases (show lc = _ from hcl)
      cases (show lo = _ from hdl)
      have at1 := Heap.get?_push_of_some (noneYet led) hol
      have u1 := PySem.F.sub_list_set
      have u2 := PySem.F.sub_list_frozenset
      have u3 : (Value.type "list" == Value.type "dict") = false := rfl
      have isl : (s.heap.push (noneYet led)).IsList l items := ⟨_, at1, rfl, nl, rfl⟩
      unfold Builtin.«set.__init__» noKeywords Builtin.Frozenset.updateFrom
      generalize hPI : pyIter = PI
      wp_walk
      subst hPI
      refine wpAny_pyIter_list isl (wpAny_bind (wpAny_runValue ?_))
      have lt := Heap.lt_size hol
      have hh3 : A.in1.in1.in1.handled = none := by simp [hh]
      have ne1 : l ≠ (s.heap.push (noneYet led)).objs.size := by rw [Heap.size_push]; exact Nat.ne_of_lt (Nat.lt_succ_of_lt lt)
      have ne2 : s.heap.objs.size ∉ [(s.heap.push (noneYet led)).objs.size, l] := fun z => (List.mem_cons.mp z).elim (fun q => by rw [Heap.size_push] at q; exact absurd q (Nat.ne_of_lt (Nat.lt_succ_self _))) fun q => absurd (List.mem_singleton.mp q) (Nat.ne_of_gt lt)
      refine add_each ((Walks.list hh3 _ l ne1 items).toS) s.heap.objs.size ne2 xs hn hb hv (items.size - 0) 0 _ (by omega) (Nat.zero_le _) ⟨⟨_, Heap.get?_push_size _ rfl, rfl, rfl⟩, (isl.push _)⟩ ?_ ?_
      · exact set_as ((setObjOf_fresh (knd := knd) led).setOf (Heap.get?_push_of_some _ at0) (Nat.lt_of_le_of_lt (Nat.zero_le _) hb)) (fun _ => by simp [once]) rfl
      · rintro ⟨h', g', d', tk', os'⟩ mv has
        have eg : g' = s.gens := mv.gens
        have ed : d' = s.drawn := mv.drawn
        have eo : os' = s.os := mv.os
        cases eg; cases ed; cases eo
        show wpAny _ _ _ _ _ _
        refine wpAny_pure ?_
        show wpAny _ _ (ret Value.none) _ _ _
        refine wpAny_pure ⟨rfl, h', tk', rfl, has, fun b o e => ?_⟩
        have lb := Heap.lt_size e
        exact mv.heap b o (fun z => (List.mem_cons.mp z).elim (fun q => absurd q (Nat.ne_of_lt lb)) fun q => by
          have q := List.mem_singleton.mp q
          rw [Heap.size_push] at q
          exact absurd q (Nat.ne_of_lt (Nat.lt_succ_of_lt lb))) (Heap.get?_push_of_some _ (Heap.get?_push_of_some _ e))
    · match r2, hr2 with
      | .error _, hr2 => exact hr2
      | .ok .next, hr2 => exact hr2.elim
      | .ok .brk, hr2 => exact hr2.elim
      | .ok .cont, hr2 => exact hr2.elim
      | .ok (.ret _), ⟨e3, h', tk, e4, has, kp⟩ =>
        subst e3
        subst e4
        repeat (any_goals (first | assumption | wp_step))
        exact h _ _ has kp
end
theorem strs_get : ∀ {xs : List Str} {us : List Value}, Vals (xs.map V.str) us → ∀ (i : Nat) (v : Value), us[i]? = some v → ∃ y, xs[i]? = some y ∧ ∃ t, v = .str y t
  | [], _, .nil, _, _, h => by simp at h
  | x :: xs, _, .cons r rs, 0, v, h => by
    obtain ⟨t, e⟩ := r
    exact ⟨x, rfl, t, by rw [← e]; simpa using h.symm⟩
  | x :: xs, _, .cons r rs, i + 1, v, h => strs_get rs i v (by simpa using h)
/-! ### len(set(xs)), xs a list of texts -/
def tLenSetS (K : PySem.W.Frag) (ta : TE) : TE := fun σ H Q => ta σ H fun x H1 => ∃ (l : Addr) (xs : List Str), x = .ref l ∧ SqL K H1 l (xs.map V.str) ∧ xs.length ≤ 1000 ∧ Q (.int ((once xs).length : Nat)) H1
theorem pe_lenSetS {X : Cx} {a : Expr} {ta : TE} {p p2 q pos : Pos} (hc : X.calm = true) (hg : Gl X "len") (hm : X.mg "len" = none) (hg2 : Gl X "set") (hm2 : X.mg "set" = none) (ha : PE X a ta)
    (na : starEach [a] X.env = (false, eval a X.env) :: starEach [] X.env := by rfl) : PE X (.Call (.Name "len" p) [.Call (.Name "set" p2) [a] [] q] [] pos) (tLenSetS X.K ta) := by
  refine ⟨fun pins s σ H Q I h => Call_ (ld_blt I hg hm boot_len (PyProof.Rows.callWith_builtin1 (PyProof.Rows.args_cons (Call_ (ld_blt I hg2 hm2 boot_set (PyProof.Rows.callWith_type1 (PyProof.Rows.args_cons (thn (ha.run pins s σ H _ I h) fun v s1 ⟨x, H1, I1, r1, q1⟩ => PyProof.Rows.args_nil ?_) na) na rfl))) rfl) rfl rfl))⟩
  obtain ⟨l, xs, rfl, hq, hl, q1⟩ := q1
  cases r1
  obtain ⟨its, rv, pl, hz⟩ := I1.list hq
  have el : xs.length = its.toArray.size := by have := rv.length; rw [List.length_map] at this; simpa using this
  refine set_of_list (knd := PySem.strKind X.prog X.w) (I1.ok.hd hc) pl.isList xs el (by rw [← el]; unfold scanBound; omega) (fun i v hv => ?_) fun h' tk has kp => ?_
  · obtain ⟨y, ey, t, ev⟩ := strs_get rv i v (by simpa using hv)
    subst ev
    exact ⟨y, ey, strKind_is _ _ _ _, rfl⟩
  · refine PyProof.Rows.args_nil ?_
    obtain ⟨o, es, ep, t, ho, hex, hd, _, _, _, hf, hn⟩ := has
    have I2 : Inv X pins σ H1 { s1 with heap := h', toks := tk } := I1.kept fun b o e => kp b o e
    have := once_len xs
    refine call_len_set ho hex hd hf (by rw [hn]; omega) ⟨.int ((once xs).length : Nat), H1, I2.tok _, ⟨tk + 1, by rw [hn]⟩, q1⟩
theorem kx_lenSetS {X : Cx} (K : PySem.W.Frag) (hK : X.K = K) {a : Expr} {ta : TE} {p p2 q pos : Pos} (hc : X.calm = true) (hg : Gl X "len") (hm : X.mg "len" = none) (hg2 : Gl X "set") (hm2 : X.mg "set" = none) (ha : PE X a ta)
    (na : starEach [a] X.env = (false, eval a X.env) :: starEach [] X.env := by rfl) : PE X (.Call (.Name "len" p) [.Call (.Name "set" p2) [a] [] q] [] pos) (tLenSetS K ta) := by subst hK; exact pe_lenSetS hc hg hm hg2 hm2 ha na
section
variable {K : PySem.W.Frag} {δ : List (Option D)} {m : Mem} {Q : D → Mem → Prop} {ta : TE}
theorem ew_lenSetS (h : EW K ta δ m fun x m1 => ∃ xs : List Str, SeqIn m1 x (xs.map .str) ∧ xs.length ≤ 1000 ∧ Q (.int ((once xs).length : Nat)) m1) : EW K (tLenSetS K ta) δ m Q := fun σ H s M QQ k =>
  h σ H s M _ fun x m1 v1 H1 ⟨xs, sq, hl, q⟩ s1 M1 r1 => by
    obtain ⟨p, vs, rfl, e, r⟩ := sq.get M1 r1
    have := RdL.strs_v r
    subst this
    exact ⟨p, xs, rfl, SqL.of e, hl, k _ m1 _ H1 q s1 M1 (.int _)⟩
end
end DL

set_option Elab.async false
set_option linter.all false
set_option maxRecDepth 100000
set_option maxHeartbeats 2000000
set_option autoImplicit false
/-! Dicts whose keys are tuples, nested ones too: in, d[k], d[k] = v, {}, len. -/
namespace DL
open PySem PySem.Spec PyProof.Rows L2
/-! ### keys -/
mutual
/-- a value is the key k -/
inductive NKt (K : PySem.W.Frag) (F : Hp) : NestedKey → V → Prop
  | none : NKt K F .none .non
  | int (i : Int) : NKt K F (.num i) (.int i)
  | text (x : Str) : NKt K F (.text x) (.str x)
  | tup {a : Addr} {xs : List V} {ks : List NestedKey} : SqT K F a xs → NKtL K F ks xs → NKt K F (.tup ks) (.ref a)
inductive NKtL (K : PySem.W.Frag) (F : Hp) : List NestedKey → List V → Prop
  | nil : NKtL K F [] []
  | cons {k : NestedKey} {v : V} {ks : List NestedKey} {vs : List V} : NKt K F k v → NKtL K F ks vs → NKtL K F (k :: ks) (v :: vs)
end
section
variable {K : PySem.W.Frag} {F G : Hp}
mutual
theorem nkt_of : ∀ (k : NestedKey) {v : V}, Rd K F v (kd k) → NKt K F k v
  | .none, v, x => by
    simp only [kd] at x
    cases x; exact .none
  | .num i, v, x => by
    simp only [kd] at x
    cases x; exact .int i
  | .text y, v, x => by
    simp only [kd] at x
    cases x; exact .text y
  | .tup ks, v, x => by
    simp only [kd] at x
    cases x with
    | tup e r => exact .tup e (nktL_of ks r)
theorem nktL_of : ∀ (ks : List NestedKey) {vs : List V}, RdL K F vs (kds ks) → NKtL K F ks vs
  | [], vs, x => by
    simp only [kds] at x
    cases x; exact .nil
  | k :: ks, vs, x => by
    simp only [kds] at x
    cases x with
    | cons a b => exact .cons (nkt_of k a) (nktL_of ks b)
end
mutual
theorem NKt.mono (e : Sub F G) : ∀ (k : NestedKey) {v : V}, NKt K F k v → NKt K G k v
  | .none, _, .none => .none
  | .num _, _, .int i => .int i
  | .text _, _, .text x => .text x
  | .tup ks, _, .tup h r => .tup (e.sqt h) (NKtL.mono e ks r)
theorem NKtL.mono (e : Sub F G) : ∀ (ks : List NestedKey) {vs : List V}, NKtL K F ks vs → NKtL K G ks vs
  | [], _, .nil => .nil
  | k :: ks, _, .cons a b => .cons (NKt.mono e k a) (NKtL.mono e ks b)
end
end
section
variable {X : Cx} {pins : List (Addr × Obj)} {σ : L2.St} {H : Hp} {s : Shared}
mutual
theorem NKt.is (I : Inv X pins σ H s) : ∀ (k : NestedKey) {v : V} {u : Value}, NKt X.K H k v → RelV v u → NestedIs s.heap k u
  | .none, _, _, .none, e => by
    obtain rfl := (show _ = Value.none from e)
    exact .none
  | .num _, _, _, .int i, e => by
    obtain ⟨t, rfl⟩ := (show ∃ t, _ = Value.int i t from e)
    exact .int i t
  | .text _, _, _, .text x, e => by
    obtain ⟨t, rfl⟩ := (show ∃ t, _ = Value.str x t from e)
    exact .text x t
  | .tup ks, _, _, @NKt.tup _ _ a xs _ h r, e => by
    obtain rfl := (show _ = Value.ref a from e)
    obtain ⟨its, rel, ⟨o, ho, hc, n, hd⟩, _⟩ := I.tuple h
    exact .tup ho hc hd (NKtL.is I ks r rel)
theorem NKtL.is (I : Inv X pins σ H s) : ∀ (ks : List NestedKey) {vs : List V} {us : List Value}, NKtL X.K H ks vs → Vals vs us → NestedAll s.heap ks us
  | [], _, _, .nil, .nil => .nil
  | k :: ks, _, _, .cons a b, .cons c d => .cons (NKt.is I k a c) (NKtL.is I ks b d)
end
end
/-! ### what a dict holds -/
abbrev NdV := List (NestedKey × Addr × V)
abbrev NdPair (x : NestedKey × Addr × V) (y : NestedKey × Addr × Value) : Prop := x.1 = y.1 ∧ x.2.1 = y.2.1 ∧ RelV x.2.2 y.2.2
theorem NdIs.stay {w : World} {p : Addr} {xs : NdV} : ∀ h1 h2 : Heap, NdIs w p xs h1 → (∀ o, h1.get? p = some o → h2.get? p = some o) → NdIs w p xs h2 := fun h1 h2 ⟨a, b, c, vs, d, o, es, ep, e, f⟩ k => ⟨a, b, c, vs, d, o, es, ep, k _ e, f⟩
/-- the keys' tuples stand -/
abbrev NdKeys (K : PySem.W.Frag) (H : Hp) (xs : NdV) : Prop := ∀ x ∈ xs, NKt K H x.1 (.ref x.2.1)
section
variable {X : Cx} {pins : List (Addr × Obj)} {σ : L2.St} {H : Hp} {s : Shared} {p a : Addr} {xs : NdV} {k : NestedKey} {v : V} {r : Value} {A : Around} {E : Value → Shared → Prop}
theorem nd_rd (I : Inv X pins σ H s) (e : L2.Rd H p (NdO X.w p xs)) (ks : NdKeys X.K H xs) : xs.length ≤ sizeLine ∧ (p == sysModules) = false ∧ (∀ x ∈ xs, x.1.depth ≤ 8) ∧ ∃ vs, Paired NdPair xs vs ∧ s.heap.DictOfH (nestedKind X.prog X.w) p vs := by
  obtain ⟨⟨z, hd, dp, vs, rel, o, es, ep, h1, h2, h3, h4, h5⟩, _⟩ := (show ObjOk X.prog X.w H s.heap p (NdO X.w p xs) from e.ok I.hok)
  refine ⟨z, hd, dp, vs, rel, o, es, ep, h1, h2, h3, h4, ?_, h5⟩
  have all : ∀ {l : NdV} {m : List (NestedKey × Addr × Value)}, Paired NdPair l m → (∀ x ∈ l, NKt X.K H x.1 (.ref x.2.1) ∧ x.1.depth ≤ 8) → ∀ y ∈ m, (nestedKind X.prog X.w).is s.heap y.1 y.2.1 := by
    intro l m q
    induction q with
    | nil => intro _ y hy; exact nomatch hy
    | @cons x y l m hq t ih =>
      intro g z hz
      rcases List.mem_cons.mp hz with rfl | hz
      · have := g x List.mem_cons_self
        rw [hq.1, hq.2.1] at this
        exact ⟨NKt.is I _ this.1 rfl, this.2⟩
      · exact ih (fun x hx => g x (List.mem_cons_of_mem _ hx)) z hz
  exact all rel fun x hx => ⟨ks x hx, dp x hx⟩
theorem n_len {Q : Value → Shared → Prop} (I : Inv X pins σ H s) (e : L2.Rd H p (NdO X.w p xs)) (ks : NdKeys X.K H xs) (h : ∀ s' t, Inv X pins σ H s' → Q (.int (xs.length : Nat) t) s') :
    wpAny (model X.prog X.w) A (call (.builtin "dict.__len__") [.ref p]) Q E s := by
  obtain ⟨z, hd, dp, vs, rel, dd⟩ := nd_rd I e ks
  refine len_keyed (knd := nestedKind X.prog X.w) hd ⟨vs, dd, rfl⟩ ?_
  rw [pairsH_length, ← Paired.length rel]
  exact h _ _ (I.tok _)
end
section
variable {K : PySem.W.Frag} {F : Hp}
end
section
variable {K : PySem.W.Frag} {δ : List (Option D)} {m : Mem} {Q : D → Mem → Prop} {w : World} {p : Addr} {kvs : List (NestedKey × D)} {k : NestedKey}
end
end DL

set_option Elab.async false
set_option linter.all false
set_option maxRecDepth 100000
set_option maxHeartbeats 2000000
set_option autoImplicit false
/-! sorted(d.items()) of a dict whose keys are texts. -/
namespace DL
open PySem PySem.Spec PyProof.Rows L2 PySem.W
/-! ### texts in their order -/
theorem ltS_asym {x y : List Nat} (h : decide (x < y) = true) : decide (y < x) = false := by
  rw [← ltCps_eq] at h ⊢
  cases e : ltCps y x with
  | false => rfl
  | true =>
    rcases leT_total x y with q | q
    · unfold leT at q; rw [q] at e; cases e
    · unfold leT at q; rw [q] at h; cases h
theorem swo_txt {α : Type} (k : α → Str) : SrtO.Swo fun v u : α => decide ((k v).cps.toList < (k u).cps.toList) := by
  refine ⟨fun x y h => ltS_asym h, fun x y z h1 h2 => ?_⟩
  rw [← ltCps_eq] at h1 h2 ⊢
  exact leT_trans (a := (k x).cps.toList) (b := (k y).cps.toList) (c := (k z).cps.toList) h1 h2
/-! ### the sort's questions: pairs (text, plain value) -/
def plainV (u : Value) : Prop := (∃ i t, u = .int i t) ∨ ∃ x t, u = .str x t
def txAt (h : Heap) (v : Value) : Str := DT.txOf (DT.seqAt0 h (DT.refOf (some v)))
def PrIn (h : Heap) (v : Value) (y : Str) (u : Value) : Prop := ∃ (a : Addr) (t : Tok), v = .ref a ∧ IsTup h a #[.str y t, u]
theorem PrIn.tx {h : Heap} {v : Value} {y : Str} {u : Value} (x : PrIn h v y u) : txAt h v = y := by
  obtain ⟨a, t, rfl, h1⟩ := x
  show DT.txOf (DT.seqAt0 h a) = y
  rw [DT.seqAt0_of h1]
  rfl
section
variable {prog : Program} {w : World} {A : Around} {s : Shared}
theorem pr_cmp {vs : List Value} {y : Value → Str} {g : Value → Value} (hp : ∀ v ∈ vs, PrIn s.heap v (y v) (g v)) (pl : ∀ v ∈ vs, plainV (g v)) (one : ∀ v ∈ vs, ∀ u ∈ vs, y v = y u → v = u) :
    SrtO.Cmp prog w A s (tuples' true) (fun p => p.1 ∈ vs) (SrtO.lt2 fun v u => decide ((y v).cps.toList < (y u).cps.toList)) := by
  intro p q hm hm'
  have h1 := hp _ hm
  have h2 := hp _ hm'
  have p1 := pl _ hm
  have on := one _ hm _ hm'
  show wpAny (model prog w) A (keyLt' (tuples' true) p.1 q.1) (fun r s' => s' = s ∧ r = decide ((y p.1).cps.toList < (y q.1).cps.toList)) (fun _ _ => False) s
  by_cases e : y p.1 = y q.1
  · have ev := on e
    rw [← ev] at h2 ⊢
    clear ev on
    obtain ⟨a, t, ea, o, ho, hc, n, hd⟩ := h1
    rw [ea]
    have irr : decide ((y p.1).cps.toList < (y p.1).cps.toList) = false := decide_eq_false (List.lt_irrefl _)
    rw [ea] at irr hd
    rw [irr]
    refine PySem.W.kat_lt ho hd ho hd ?_
    show PySem.W.KatLex prog w A true (decide (2 < 2)) _ [(Value.str (y (Value.ref a)) t, Value.str (y (Value.ref a)) t), (g (Value.ref a), g (Value.ref a))] 0 s
    refine PySem.W.kat_cons (SeqAt.EqAt.str_str _ t _ t prog w _ _ ?_)
    refine PySem.W.kat_go (fun _ => ?_) (fun e1 => absurd e1 (by simp))
    rw [ea] at p1
    rcases p1 with ⟨i, t1, e1⟩ | ⟨x, t1, e1⟩
    · rw [e1]
      refine PySem.W.kat_yes (PySem.W.kat_cons (SeqAt.EqAt.int_int i t1 i t1 prog w _ _ ?_))
      refine PySem.W.kat_go (fun _ => ?_) (fun e2 => absurd e2 (by simp))
      exact PySem.W.kat_yes (PySem.W.kat_nil ⟨rfl, rfl⟩)
    · rw [e1]
      refine PySem.W.kat_yes (PySem.W.kat_cons (SeqAt.EqAt.str_str x t1 x t1 prog w _ _ ?_))
      refine PySem.W.kat_go (fun _ => ?_) (fun e2 => absurd e2 (by simp))
      exact PySem.W.kat_yes (PySem.W.kat_nil ⟨rfl, rfl⟩)
  · obtain ⟨a, t, ea, o, ho, hc, n, hd⟩ := h1
    obtain ⟨a', t', ea', o', ho', hc', n', hd'⟩ := h2
    generalize y p.1 = y1 at *
    generalize y q.1 = y2 at *
    rw [ea, ea']
    refine PySem.W.kat_lt ho hd ho' hd' ?_
    show PySem.W.KatLex prog w A true (decide (2 < 2)) _ [(Value.str y1 t, Value.str y2 t'), (g p.1, g q.1)] 0 s
    refine PySem.W.kat_cons (SeqAt.EqAt.str_str y1 t y2 t' prog w _ _ ?_)
    refine PySem.W.kat_go (fun e1 => absurd (by simpa using e1) e) (fun _ => ?_)
    exact PySem.W.kat_no (oneLt_str ⟨rfl, rfl⟩)
theorem pr_firsts {h : Heap} {y : Value → Str} {g : Value → Value} : ∀ vs : List Value, (∀ v ∈ vs, PrIn h v (y v) (g v)) → ∃ fs : List Value, KatTups h vs fs ∧ fs.length = vs.length ∧ ∀ f ∈ fs, ∃ (x : Str) (t : Tok), f = Value.str x t
  | [], _ => ⟨[], KatTups.nil, rfl, fun f hf => by simp at hf⟩
  | v :: vs, x => by
    obtain ⟨fs, k, hl, hi⟩ := pr_firsts vs fun u hu => x u (List.mem_cons_of_mem _ hu)
    obtain ⟨a, t, ea, ⟨o, ho, hc, n, hd⟩⟩ := x v (List.mem_cons_self ..)
    subst ea
    refine ⟨.str (y (.ref a)) t :: fs, ?_, by rw [List.length_cons, List.length_cons, hl], fun f hf => ?_⟩
    · exact KatTups.cons ho hc hd rfl k
    · rcases List.mem_cons.mp hf with rfl | hf
      · exact ⟨_, _, rfl⟩
      · exact hi f hf
theorem PrIn.keeps {h h' : Heap} {v : Value} {y : Str} {u : Value} (x : PrIn h v y u) (k : ∀ b o, h.get? b = some o → o.cls = .type "tuple" → h'.get? b = some o) : PrIn h' v y u := by
  obtain ⟨a, t, e, o, ho, hc, n, hd⟩ := x
  exact ⟨a, t, e, o, k _ _ ho hc, hc, n, hd⟩
theorem pr_sortable {a : Addr} {vs : List Value} {y : Value → Str} {g : Value → Value} (h0 : 0 < vs.length) (hp : ∀ v ∈ vs, PrIn s.heap v (y v) (g v)) (pl : ∀ v ∈ vs, plainV (g v)) (one : ∀ v ∈ vs, ∀ u ∈ vs, y v = y u → v = u) (ha : ∀ o, s.heap.get? a = some o → o.cls ≠ .type "tuple") :
    SrtO.SortableO prog w A s a vs fun v u => decide ((y v).cps.toList < (y u).cps.toList) := by
  intro h' keep
  have hp' : ∀ v ∈ vs, PrIn h' v (y v) (g v) := fun v hm => (hp v hm).keeps fun b o e c => keep b o (fun z => by subst z; exact ha o e c) e
  obtain ⟨fs, h1, h2, h3⟩ := pr_firsts vs hp'
  refine ⟨tuples' true, fun Q E hq => ?_, pr_cmp (s := { s with heap := h' }) hp' pl one⟩
  refine PySem.W.kat_kind (T := .type "str") h1 (by omega) (fun f hm => ?_) (by rfl) ?_
  · obtain ⟨x, t, rfl⟩ := h3 f hm
    exact PySem.W.Looks.now
  · have e : (Value.type "str" != Value.type "tuple") = true := by first | decide +kernel | rfl | decide
    rw [e]
    exact hq
end
/-! ### te.items(), sorted -/
def sndAt (h : Heap) (v : Value) : Value := match h.get? (DT.refOf (some v)) with
  | some o => (match o.data with
    | .seq xs _ => xs.toList.getD 1 .none
    | _ => .none)
  | none => .none
theorem sndAt_of {h : Heap} {a : Addr} {x u : Value} (g : IsTup h a #[x, u]) : sndAt h (.ref a) = u := by
  obtain ⟨o, ho, hc, n, hd⟩ := g
  unfold sndAt DT.refOf
  simp only [ho, hd]
  rfl
/-- what te.items() is read from, and the view that comes of it -/
def tItemsV (te : TE) : TE := fun σ H Q => te σ H fun x G => ∃ (d : Addr) (kvs : List (Key × V)), (x = .ref d ∧ G d = some (.dK kvs)) ∧ ∀ t, G t = none → Q (.ref t) (upd G t (L2.DX.itemsO t d))
theorem pe_itemsV {X : Cx} {e : Expr} {te : TE} {ap cp : Pos} (pe : PE X e te) (hb : attributeBase e "items" X.env (eval e X.env) = eval e X.env := by rfl) (hl : (ap.endLine == cp.line) = true := by rfl) :
    PE X (.Call (.Attribute e "items" ap) [] [] cp) (tItemsV te) where
  run pins s σ H Q I q0 := wpAny_Call_method (T := "dict") (id := "dict.items") hb rfl hl F.plainAttrs_dict F.slot_dict_items F.type_dict_items (thn (pe.run pins s σ H _ I q0) fun u z ⟨x, G, J, rx, d, kvs, ⟨ex, hd⟩, q⟩ => by
    subst ex
    obtain rfl : u = Value.ref d := rx
    obtain ⟨_, notS, vs, _, isD⟩ := J.hok d _ hd
    refine ⟨isD.typeIs, isD.mapOf.noDict, (show wpAny _ _ (callWith cp (.builtin "dict.items") [.ref d] [] []) _ X.xe z from method_meetsIn F.slot_dict_items F.entry_dict_items rfl (PySem.evalArgs_none ⟨rfl, isD.typeIs, F.args_dict_items_1 _, _, meets_dict_items (mixKind X.prog X.w) d notS, ⟨vs, isD⟩, ?_⟩))⟩
    have free : G z.heap.objs.size = none := J.hok.fresh (Nat.le_refl _)
    exact ⟨.ref z.heap.objs.size, _, J.laid (t' := z.toks) (fun c w' e' => Heap.get?_push_of_some _ e') (Nat.le_refl _) (L2.DX.itemsO_ok (Heap.get?_push_size _ rfl)), rfl, q _ free⟩)
abbrev entK (e : Str × V) : Key × V := (Sum.inr e.1, e.2)
/-- the pair that a walk over the items has laid for an entry -/
theorem laid_pair {P : Program} {w : World} {ents : List (Str × V)} {vs : List (Key × Value)} {es : Array DictEntry} {lo : Addr} {h : Heap} {ts : List Addr} (rel : KV (ents.map entK) vs) (prs : Pairs (mixKind P w) es.toList vs) (mk : DT.Made es lo h ts) (len : ts.length = es.size) {i : Nat} {t : Addr} (ht : ts[i]? = some t) :
    ∃ (e : Str × V) (tk : Tok) (u : Value), ents[i]? = some e ∧ RelV e.2 u ∧ h.get? t = some { cls := .type "tuple", data := .seq #[Value.str e.1 tk, u] } := by
  have n1 : ents.length = vs.length := by have := Paired.length rel; rwa [List.length_map] at this
  have n2 : es.size = vs.length := by rw [← Array.length_toList]; exact prs.length
  have i1 := (List.getElem?_eq_some_iff.mp ht).1
  have i2 : i < vs.length := by omega
  have i3 : i < ents.length := by omega
  obtain ⟨en, e1, e2⟩ := mk.pairs i t ht
  obtain ⟨q1, q2⟩ := prs.get? (show es.toList[i]? = some en by rw [Array.getElem?_toList]; exact e1) (show vs[i]? = some (vs[i].1, vs[i].2) from List.getElem?_eq_getElem i2)
  obtain ⟨x, ex, k1, k2⟩ := L2.DX.pget rel (List.getElem?_eq_getElem i2)
  rw [List.getElem?_map, List.getElem?_eq_getElem i3] at ex
  obtain rfl : entK ents[i] = x := Option.some.inj ex
  rw [show vs[i].1 = Sum.inr ents[i].1 from k1.symm] at q1
  rcases keyIs_shape (show keyIs (Sum.inr ents[i].1) en.key = true from q1) with ⟨_, _, bad, _⟩ | ⟨y, tk, ey, ek⟩
  · exact nomatch bad
  · injection ey with ey
    exact ⟨ents[i], tk, en.val, List.getElem?_eq_getElem i3, by rw [q2]; exact k2, by rw [e2, ek, ey]⟩
/-- the same, as it is read off the heap -/
theorem laid_read {P : Program} {w : World} {ents : List (Str × V)} {vs : List (Key × Value)} {es : Array DictEntry} {lo : Addr} {h : Heap} {ts : List Addr} (rel : KV (ents.map entK) vs) (prs : Pairs (mixKind P w) es.toList vs) (mk : DT.Made es lo h ts) (len : ts.length = es.size) {i : Nat} {t : Addr} (ht : ts[i]? = some t) :
    ∃ e : Str × V, ents[i]? = some e ∧ txAt h (.ref t) = e.1 ∧ RelV e.2 (sndAt h (.ref t)) ∧ PrIn h (.ref t) (txAt h (.ref t)) (sndAt h (.ref t)) := by
  obtain ⟨e, tk, u, he, ru, hg⟩ := laid_pair rel prs mk len ht
  have it : IsTup h t #[.str e.1 tk, u] := ⟨_, hg, rfl, 0, rfl⟩
  have pi : PrIn h (.ref t) e.1 u := ⟨t, tk, rfl, it⟩
  rw [pi.tx, sndAt_of it]
  exact ⟨e, he, rfl, ru, pi⟩
def rSortItV : List V → Hp → VK → Prop := fun vs H Q => ∃ (p a : Addr) (ks : List (Str × V)), vs = [.ref p] ∧ H p = some (L2.DX.itemsO p a) ∧ H a = some (.dK (ks.map entK)) ∧ (ks.map (·.1)).Nodup ∧ (∀ e ∈ ks, (∃ i, e.2 = V.int i) ∨ ∃ x, e.2 = V.str x) ∧
  ∀ (H' : Hp) (l : Addr) (ps : List (Addr × Str × V)), (∀ b o, H b = some o → H' b = some o) → (ps.map (·.2)).Perm ks → SortS (ps.map (·.2.1)) → H l = none → H' l = some (.lst (ps.map fun z => V.ref z.1)) → (∀ z ∈ ps, H z.1 = none ∧ H' z.1 = some (.tup [.str z.2.1, z.2.2])) → Q (.ref l) H'
theorem cr_sortItV {X : Cx} (hc : X.calm = true) : CallR X (.builtin "sorted") rSortItV := by
  intro pins s σ H args us Q I rargs ⟨p, a, ents, eargs, view0, dict0, distinct, plain, fin⟩
  subst eargs
  obtain rfl := Vals.ref1 rargs
  have view := (show ObjOk X.prog X.w H s.heap p (L2.DX.itemsO p a) from I.hok p _ view0).1
  obtain ⟨small, _, vs, rel, o, es, ep, at_o, exact_o, data_o, _, prs, _⟩ := dk_of I.hok dict0
  have n1 : ents.length = vs.length := by have := Paired.length rel; rwa [List.length_map] at this
  have n2 : es.size = vs.length := by rw [← Array.length_toList]; exact prs.length
  rw [List.length_map] at small
  refine DT.sortedI (es := es) (ep := ep) (I.ok.hd hc) view ⟨o, at_o, exact_o, data_o⟩ (by omega) fun h1 tk ts keep new len mk => ?_
  have tdis : ts.Nodup := mk.rise.imp fun q => Nat.ne_of_lt q
  have rd := fun (i : Nat) (t : Addr) (q : ts[i]? = some t) => laid_read rel prs mk len q
  have place : ∀ v ∈ ts.map Value.ref, ∃ (i : Nat) (t : Addr), v = .ref t ∧ ts[i]? = some t := fun v hv => by
    obtain ⟨t, ht, rfl⟩ := List.mem_map.mp hv
    obtain ⟨i, hi⟩ := List.mem_iff_getElem?.mp ht
    exact ⟨i, t, rfl, hi⟩
  have lst0 : (h1.push { cls := .type "list", data := .seq (ts.map Value.ref).toArray }).get? h1.objs.size = some (seqObj "list" (ts.map Value.ref).toArray 0) := Heap.get?_push_size _ rfl
  have old1 : ∀ c ob, h1.get? c = some ob → c ≠ h1.objs.size ∧ (h1.push { cls := .type "list", data := .seq (ts.map Value.ref).toArray }).get? c = some ob := fun c ob q => ⟨Nat.ne_of_lt (Heap.lt_size q), Heap.get?_push_of_some _ q⟩
  generalize h1.push { cls := .type "list", data := .seq (ts.map Value.ref).toArray } = h2 at lst0 old1 ⊢
  refine wpAny_call_entry (Q := fun _ s' => EP X pins σ Q (.ref h1.objs.size) s') slot_list_sort ⟨_, lst0, rfl⟩ entry_list_sort (SrtO.list_sort_ord (s := { s with heap := h2, toks := tk }) (ltv := fun v u => decide ((txAt h1 v).cps.toList < (txAt h1 u).cps.toList)) (swo_txt (txAt h1)) lst0 (by rw [List.length_map]; omega) (fun two => ?_) fun out sorted stable => ⟨.none, rfl, ?_⟩) (args_list_sort _)
  · refine pr_sortable (s := { s with heap := h2, toks := tk }) (g := sndAt h1) (by omega) (fun v hv => ?_) (fun v hv => ?_) (fun v hv u hu same => ?_) fun ob q => ?_
    · obtain ⟨i, t, rfl, hi⟩ := place v hv
      obtain ⟨_, _, _, _, pi⟩ := rd i t hi
      exact pi.keeps fun c ob q _ => (old1 c ob q).2
    · obtain ⟨i, t, rfl, hi⟩ := place v hv
      obtain ⟨e, he, _, ru, _⟩ := rd i t hi
      rcases plain e (List.mem_of_getElem? he) with ⟨n, en⟩ | ⟨x, ex⟩
      · rw [en] at ru
        obtain ⟨tt, et⟩ := (show ∃ tt, _ = Value.int n tt from ru)
        exact .inl ⟨n, tt, et⟩
      · rw [ex] at ru
        obtain ⟨tt, et⟩ := (show ∃ tt, _ = Value.str x tt from ru)
        exact .inr ⟨x, tt, et⟩
    · obtain ⟨i, t, rfl, hi⟩ := place v hv
      obtain ⟨j, t', rfl, hj⟩ := place u hu
      obtain ⟨e, he, te, _⟩ := rd i t hi
      obtain ⟨e', he', te', _⟩ := rd j t' hj
      rw [te, te'] at same
      obtain rfl : i = j := (List.getElem?_inj (by rw [List.length_map]; exact (List.getElem?_eq_some_iff.mp he).1) distinct).mp (by rw [List.getElem?_map, List.getElem?_map, he, he']; exact congrArg some same)
      rw [hi] at hj
      exact congrArg Value.ref (Option.some.inj hj)
    · obtain rfl : ob = seqObj "list" (ts.map Value.ref).toArray 0 := Option.some.inj (q.symm.trans lst0)
      exact fun bad => absurd (Value.type.inj bad) (by decide)
  · have both : (ts.zip ents).map (fun z : Addr × Str × V => Value.ref z.1) = ts.map Value.ref := by
      rw [show (fun z : Addr × Str × V => Value.ref z.1) = Value.ref ∘ Prod.fst from rfl, ← List.map_map, List.map_fst_zip (by omega)]
    obtain ⟨zs, zp, ze⟩ := perm_lift (fun z : Addr × Str × V => Value.ref z.1) stable.perm (ts.zip ents) both
    have spot : ∀ z ∈ zs, ∃ i : Nat, ts[i]? = some z.1 ∧ ents[i]? = some z.2 := fun z hz => by
      obtain ⟨i, hi⟩ := List.mem_iff_getElem?.mp (zp.mem_iff.mp hz)
      exact ⟨i, (List.getElem?_zip_eq_some.mp hi).1, (List.getElem?_zip_eq_some.mp hi).2⟩
    have text : ∀ z ∈ zs, txAt h1 (.ref z.1) = z.2.1 := fun z hz => by
      obtain ⟨i, q1, q2⟩ := spot z hz
      obtain ⟨e, he, te, _⟩ := rd i z.1 q1
      rw [te, Option.some.inj (he.symm.trans q2)]
    have perm2 : (zs.map (·.2)).Perm ents := by
      have q := zp.map (·.2)
      rwa [List.map_snd_zip (by omega)] at q
    have ord : SortS (zs.map (·.2.1)) := by
      rw [← ze] at sorted
      refine List.pairwise_map.mpr ((List.pairwise_map.mp sorted).imp_of_mem fun {x y} hx hy q => ?_)
      have q' : decide ((txAt h1 (.ref y.1)).cps.toList < (txAt h1 (.ref x.1)).cps.toList) = false := q
      rwa [text x hx, text y hy, ← ltCps_eq] at q'
    obtain ⟨cap, lstF⟩ := sortedHeap_at (vs := ts.map Value.ref) (out := out.toArray) lst0
    have through : ∀ c ob, h1.get? c = some ob → (sortedHeap h2 h1.objs.size (ts.map Value.ref) out.toArray).get? c = some ob := fun c ob q => (sortedHeap_old (old1 c ob q).1 (Heap.lt_size (old1 c ob q).2)).trans (old1 c ob q).2
    generalize sortedHeap h2 h1.objs.size (ts.map Value.ref) out.toArray = h3 at lstF through ⊢
    show EP X pins σ Q (.ref h1.objs.size) { s with heap := h3, toks := tk }
    have freeL : H h1.objs.size = none := I.hok.fresh (Nat.le_of_lt new)
    have okL : ObjOk X.prog X.w (upd H h1.objs.size (.lst (zs.map fun z => V.ref z.1))) h3 h1.objs.size (.lst (zs.map fun z => V.ref z.1)) := by
      refine ⟨?_, out, cap, ?_, lstF⟩
      · have q := perm2.length_eq
        rw [List.length_map] at q ⊢
        omega
      · rw [← ze]
        exact vals_maps (fun z : Addr × Str × V => V.ref z.1) (fun z => Value.ref z.1) zs fun _ _ => rfl
    have J := (I.kept (h' := h3) (t' := tk) fun c ob q => through c ob (keep c ob q)).take (h' := h3) (t' := tk) (fun c ob _ q => q) (I.fpOk (Nat.le_of_lt new) freeL) okL
    obtain ⟨G, K', more, tups⟩ := L2.DX.takeT (P := fun t ws => ∃ (i : Nat) (e : Str × V), ts[i]? = some t ∧ ents[i]? = some e ∧ ws = [.str e.1, e.2]) I ts _ J tdis fun t ht => by
      obtain ⟨i, hi⟩ := List.mem_iff_getElem?.mp ht
      obtain ⟨e, tt, u, he, ru, hg⟩ := laid_pair rel prs mk len hi
      have above : s.heap.objs.size ≤ t := Nat.le_of_lt (mk.above t ht)
      exact ⟨above, by rw [upd_ne (old1 _ _ hg).1]; exact I.hok.fresh above, _, ⟨i, e, hi, he, rfl⟩, fun _ => ⟨(by show 2 ≤ sizeLine; decide), [Value.str e.1 tt, u], .cons ⟨tt, rfl⟩ (.cons ru .nil), ⟨_, through _ _ hg, rfl, 0, rfl⟩⟩⟩
    refine ⟨.ref h1.objs.size, G, K', rfl, fin G h1.objs.size zs (fun c ob q => more c ob (by rw [upd_ne (ne_of_none q freeL)]; exact q)) perm2 ord freeL (more _ _ upd_same) fun z hz => ?_⟩
    obtain ⟨i, q1, q2⟩ := spot z hz
    obtain ⟨ws, ⟨j, e, j1, j2, rfl⟩, at_z⟩ := tups z.1 (List.mem_of_getElem? q1)
    obtain rfl : i = j := (List.getElem?_inj (List.getElem?_eq_some_iff.mp q1).1 tdis).mp (q1.trans j1.symm)
    obtain rfl : e = z.2 := Option.some.inj (j2.symm.trans q2)
    exact ⟨I.hok.fresh (Nat.le_of_lt (mk.above _ (List.mem_of_getElem? q1))), at_z⟩
/-! ### told of data -/
def tSortIt (te : TE) : TE := tCB rSortItV (tCons (tItemsV te) tNil)
section
variable {K : PySem.W.Frag} {F : Hp}
theorem ent_split : ∀ {xs : List (Key × V)} {kvs : List (Str × D)}, xs.map Prod.fst = (kvs.map fun e => ((Sum.inr e.1, e.2) : Key × D)).map Prod.fst → RdL K F (xs.map Prod.snd) ((kvs.map fun e => ((Sum.inr e.1, e.2) : Key × D)).map Prod.snd) →
    ∃ ks : List (Str × V), xs = ks.map entK ∧ ks.map (·.1) = kvs.map (·.1) ∧ ∀ z ∈ ks.zip kvs, z.1.1 = z.2.1 ∧ Rd K F z.1.2 z.2.2
  | [], [], _, _ => ⟨[], rfl, rfl, fun z hz => by simp at hz⟩
  | [], _ :: _, n, _ => by simp at n
  | _ :: _, [], n, _ => by simp at n
  | x :: xs, e :: kvs, n, r => by
    simp only [List.map_cons, List.cons.injEq] at n
    simp only [List.map_cons] at r
    cases r with
    | cons r1 r2 =>
      obtain ⟨ks, e1, e2, e3⟩ := ent_split (xs := xs) (kvs := kvs) n.2 r2
      refine ⟨(e.1, x.2) :: ks, by rw [e1, List.map_cons]; exact congrArg (· :: _) (Prod.ext n.1 rfl), by rw [List.map_cons, List.map_cons, e2], fun z hz => ?_⟩
      rw [List.zip_cons_cons] at hz
      rcases List.mem_cons.mp hz with rfl | hz
      · exact ⟨rfl, r1⟩
      · exact e3 z hz
theorem rdl_made : ∀ {ps : List (Addr × Str × V)} {zs : List ((Str × V) × (Str × D))}, ps.map (·.2) = zs.map (·.1) → (∀ z ∈ ps, F z.1 = some (.tup [.str z.2.1, z.2.2])) → (∀ z ∈ zs, z.1.1 = z.2.1 ∧ Rd K F z.1.2 z.2.2) →
    RdL K F (ps.map fun z => V.ref z.1) ((zs.map (·.2)).map fun e => D.tup [.str e.1, e.2])
  | [], [], _, _, _ => .nil
  | [], _ :: _, n, _, _ => by cases n
  | _ :: _, [], n, _, _ => by cases n
  | p :: ps, z :: zs, n, h1, h2 => by
    simp only [List.map_cons, List.cons.injEq] at n
    refine .cons (.tup (.inl (.inl (h1 p List.mem_cons_self))) ?_) (rdl_made n.2 (fun q hq => h1 q (List.mem_cons_of_mem _ hq)) fun q hq => h2 q (List.mem_cons_of_mem _ hq))
    have h := h2 z List.mem_cons_self
    rw [n.1, h.1]
    exact .cons (.str _) (.cons h.2 .nil)
end
theorem ew_sortIt {K : PySem.W.Frag} {δ : List (Option D)} {m : Mem} {Q : D → Mem → Prop} {te : TE} (h : EW K te δ m fun x m1 => ∃ kvs : List (Str × D), x = .dic (kvs.map fun e => (Sum.inr e.1, e.2)) ∧ (kvs.map (·.1)).Nodup ∧ (∀ e ∈ kvs, (∃ i, e.2 = .int i) ∨ ∃ y, e.2 = .str y) ∧
      ∀ ps : List (Str × D), ps.Perm kvs → SortS (ps.map (·.1)) → Q (.lst (ps.map fun e => .tup [.str e.1, e.2])) m1) : EW K (tSortIt te) δ m Q := fun σ H s M QQ k =>
  h σ H s M _ fun x m1 v H1 ⟨kvs, ex, nk, pl, q⟩ s1 M1 r1 => by
    subst ex
    cases r1 with
    | dic e n r =>
      rename_i d xs
      obtain ⟨ks, rfl, e2, e3⟩ := ent_split n r
      have lk : ks.length = kvs.length := by
        have := congrArg List.length e2
        simpa using this
      refine ⟨d, ks.map entK, ⟨rfl, hide_le _ _ e⟩, fun p hp => ?_⟩
      have hd : H1 d = some (.dK (ks.map entK)) := hide_le _ _ e
      refine ⟨p, d, ks, rfl, upd_same, by rw [upd_ne (ne_of_none hd hp)]; exact hd, by rw [e2]; exact nk, fun x hx => ?_, fun H' l ps ext pm so hl0 hl hps => ?_⟩
      · obtain ⟨j, hj⟩ := List.mem_iff_getElem?.mp hx
        have hjl := (List.getElem?_eq_some_iff.mp hj).1
        have hk : kvs[j]? = some kvs[j] := List.getElem?_eq_getElem (by omega)
        have hz : (x, kvs[j]) ∈ ks.zip kvs := List.mem_of_getElem? (i := j) (List.getElem?_zip_eq_some.mpr ⟨hj, hk⟩)
        have hr := (e3 _ hz).2
        rcases pl _ (List.mem_of_getElem? hk) with ⟨i, ei⟩ | ⟨y, ey⟩
        · rw [ei] at hr
          have hr : Rd K (hide m1 H1) x.2 (.int i) := hr
          generalize x.2 = xv at hr ⊢
          cases hr
          exact .inl ⟨i, rfl⟩
        · rw [ey] at hr
          have hr : Rd K (hide m1 H1) x.2 (.str y) := hr
          generalize x.2 = xv at hr ⊢
          cases hr
          exact .inr ⟨y, rfl⟩
      have none1 : ∀ b, upd H1 p (L2.DX.itemsO p d) b = none → H1 b = none := fun b hb => by
        by_cases c : b = p
        · subst c; exact hp
        · rw [upd_ne c] at hb; exact hb
      have ex1 : ∀ b o, H1 b = some o → H' b = some o := fun b o hb => ext b o (by rw [upd_ne (ne_of_none hb hp)]; exact hb)
      obtain ⟨M2, sb⟩ := mem_ext M1 ex1
      have out : ∀ t, H1 t = none → t ∉ m1.map Prod.fst := fun t ht => M1.fresh ht
      have m1e : (ks.zip kvs).map Prod.fst = ks := List.map_fst_zip (by omega)
      obtain ⟨zs, pz, ez⟩ := perm_lift Prod.fst pm (ks.zip kvs) m1e
      have pk : (zs.map Prod.snd).Perm kvs := by
        have := pz.map Prod.snd
        rwa [List.map_snd_zip (by omega)] at this
      have az : ∀ z ∈ zs, z.1.1 = z.2.1 ∧ Rd K (hide m1 H') z.1.2 z.2.2 := fun z hz => ⟨(e3 z (pz.mem_iff.mp hz)).1, (e3 z (pz.mem_iff.mp hz)).2.mono sb⟩
      have so2 : SortS ((zs.map Prod.snd).map (·.1)) := by
        have e4 : (zs.map Prod.snd).map (·.1) = ps.map (·.2.1) := by
          have e5 : (ps.map (·.2)).map (·.1) = ps.map (·.2.1) := by rw [List.map_map]; rfl
          rw [← e5, ← ez, List.map_map, List.map_map]
          exact List.map_congr_left fun z hz => (az z hz).1.symm
        rw [e4]; exact so
      refine k _ m1 _ H' (q _ pk so2) (s1.trans sb) M2 (.lst (by rw [hide_out (out l (none1 l hl0))]; exact hl) (rdl_made ez.symm (fun z hz => ?_) az))
      rw [hide_out (out _ (none1 _ (hps z hz).1))]
      exact (hps z hz).2
end DL

set_option Elab.async false
set_option linter.all false
set_option maxRecDepth 100000
set_option maxHeartbeats 2000000
set_option autoImplicit false
/-! Sets of keys of one kind that can be walked: made of a list, sorted. -/
namespace DL
open PySem PySem.Spec PyProof.Rows L2
section
variable {prog : Program} {w : World} {A : Around} {E : Value → Shared → Prop} {s : Shared} {κ : Type} [DecidableEq κ] {knd : KeyKind prog w κ}
/-- the set at a has these members, and its table can be walked -/
def SetG (knd : KeyKind prog w κ) (h : Heap) (a : Addr) (ks : List κ) : Prop := ∃ o es ep t, (h.get? a = some o ∧ o.ExactSet ∧ o.data = .set es ep t) ∧ ElemsOf knd es.toList ∧
  (∃ us : List Value, (es.toList.map Prod.snd).Perm us ∧ Paired (fun k u => knd.is k u = true) ks us) ∧ (es.size < scanBound ∧ t.fits es.size = true) ∧ Ris t.place.toList ∧ (w.params.followText "set-order" = true ∨ t.led = true)
theorem SetG.keeps {h h' : Heap} {a : Addr} {ks : List κ} (R : SetG knd h a ks) (k : ∀ o, h.get? a = some o → h'.get? a = some o) : SetG knd h' a ks := by
  obtain ⟨o, es, ep, t, ⟨ho, r1⟩, r⟩ := R
  exact ⟨o, es, ep, t, ⟨k o ho, r1⟩, r⟩
theorem paired_has {ks : List κ} {us : List Value} (p : Paired (fun k u => knd.is k u = true) ks us) (k : κ) : k ∈ ks ↔ ∃ u ∈ us, knd.is k u = true := by
  induction p with
  | nil => simp
  | @cons x u xs us hx t ih =>
    constructor
    · intro hk
      rcases List.mem_cons.mp hk with rfl | hk
      · exact ⟨u, List.mem_cons_self, hx⟩
      · obtain ⟨v, hv, e⟩ := ih.mp hk
        exact ⟨v, List.mem_cons_of_mem _ hv, e⟩
    · rintro ⟨v, hv, e⟩
      rcases List.mem_cons.mp hv with rfl | hv
      · rw [knd.inj _ _ _ e hx]; exact List.mem_cons_self
      · exact List.mem_cons_of_mem _ (ih.mpr ⟨v, hv, e⟩)
theorem elems_has {ks : List κ} {l : List (Int × Value)} {us : List Value} (pm : (l.map Prod.snd).Perm us) (p : Paired (fun k u => knd.is k u = true) ks us) (k : κ) : k ∈ ks ↔ ∃ e ∈ l, knd.is k e.2 = true := by
  rw [paired_has p k]
  constructor
  · rintro ⟨u, hu, e⟩
    obtain ⟨x, hx, rfl⟩ := List.mem_map.mp (pm.mem_iff.mpr hu)
    exact ⟨x, hx, e⟩
  · rintro ⟨x, hx, e⟩
    exact ⟨x.2, pm.mem_iff.mp (List.mem_map_of_mem hx), e⟩
theorem paired_len {ks : List κ} {us : List Value} (p : Paired (fun k u => knd.is k u = true) ks us) : ks.length = us.length := Paired.length p
theorem paired_end {ks : List κ} {us : List Value} {k : κ} {u : Value} (h : knd.is k u = true) : Paired (fun k u => knd.is k u = true) ks us → Paired (fun k u => knd.is k u = true) (ks ++ [k]) (us ++ [u])
  | .nil => .cons h .nil
  | .cons a b => .cons a (paired_end h b)
theorem SetG.len {h : Heap} {a : Addr} {ks : List κ} (R : SetG knd h a ks) : ∃ o es ep t, h.get? a = some o ∧ o.ExactSet ∧ o.data = .set es ep t ∧ t.fits es.size = true ∧ es.size = ks.length := by
  obtain ⟨o, es, ep, t, ⟨ho, hx, hd⟩, _, ⟨us, pm, p⟩, ⟨_, hf⟩, _⟩ := R
  refine ⟨o, es, ep, t, ho, hx, hd, hf, ?_⟩
  rw [paired_len p, ← pm.length_eq, List.length_map, Array.length_toList]
/-- what an add leaves that lays a new one -/
theorem add_laid {g : Bool → Sem Unit} (hg : ∀ (b : Bool) (s₁ : Shared) (Q' : Unit → Shared → Prop), Q' () s₁ → wpAny (model prog w) A (g b) Q' E s₁) {a : Addr} {o : Obj} {es es1 : Array (Int × Value)} {ep : Nat} {t t2 : SetTable} {ks : List κ}
    (ho : s.heap.get? a = some o) (hex : o.ExactSet) (hd : o.data = .set es ep t) (el : ElemsOf knd es1.toList) (hu : ∃ us : List Value, (es1.toList.map Prod.snd).Perm us ∧ Paired (fun k u => knd.is k u = true) ks us)
    (hb : es1.size < scanBound) (hf : t2.fits es1.size = true) (hr : Ris t2.place.toList) (hl : w.params.followText "set-order" = true ∨ t2.led = true) {dm : Bool} {R : Option Bool → Shared → Prop}
    (hR : ∀ h', Heap.SameBut a s.heap h' → SetG knd h' a ks → R (some true) { s with heap := h' }) :
    wpAny (model prog w) A (do
        storeSet a es1 t2
        if (!dm && t2.tooFull) = true then do
            g (relayAll t2 es1 (SetTable.grown es1.size)).2.2
            storeSet a (relayAll t2 es1 (SetTable.grown es1.size)).1 (relayAll t2 es1 (SetTable.grown es1.size)).2.1
            pure (some true)
          else pure (some true)) R E s := by
  have at1 : (s.heap.update a (Obj.putSet es1 t2)).get? a = some { o with data := .set es1 (ep + 1) t2 } := L2.store_at ho hd
  have sb := Heap.SameBut.update s.heap a (Obj.putSet es1 t2)
  refine wpAny_bind (wpAny_storeSet_of ho hd ?_ (fits_of_scanBound hb))
  split
  · obtain ⟨z1, z2, z3, z4⟩ : _ ∧ _ ∧ _ ∧ _ := ⟨relayAll_perm t2 es1 (SetTable.grown es1.size), relayAll_fits t2 es1 (SetTable.grown es1.size), relayAll_ris t2 es1 (SetTable.grown es1.size), relayAll_led t2 es1 (SetTable.grown es1.size)⟩
    generalize relayAll t2 es1 (SetTable.grown es1.size) = Z at z1 z2 z3 z4 ⊢
    obtain ⟨es2, t3, gv⟩ := Z
    simp only at z1 z2 z3 z4 ⊢
    have sz : es2.size < scanBound := by rw [← Array.length_toList, z1.length_eq, Array.length_toList]; exact hb
    have at2 : ((s.heap.update a (Obj.putSet es1 t2)).update a (Obj.putSet es2 t3)).get? a = some { o with data := .set es2 (ep + 1 + 1) t3 } := by
      have z := L2.store_at (es' := es2) (t' := t3) at1 rfl
      exact z
    refine wpAny_bind (hg _ _ _ (wpAny_bind (wpAny_storeSet_of at1 rfl (wpAny_pure (hR _ (sb.trans (Heap.SameBut.update _ a _)) ?_)) (fits_of_scanBound sz))))
    obtain ⟨us, pm, p⟩ := hu
    exact ⟨_, es2, _, t3, ⟨at2, hex, rfl⟩, el.perm z1, ⟨us, (z1.map Prod.snd).trans pm, p⟩, ⟨sz, z2⟩, z3, hl.imp id fun q => by rw [z4]; exact q⟩
  · exact wpAny_pure (hR _ sb ⟨_, es1, _, t2, ⟨at1, hex, rfl⟩, el, hu, ⟨hb, hf⟩, hr, hl⟩)
/-- one more is put into it -/
theorem addG {a : Addr} {ks : List κ} {k : κ} {x : Value} {Q : Bool → Shared → Prop} (hkey : knd.is k x = true) (hsc : x.scannable = true) (R : SetG knd s.heap a ks) (room : ks.length + 1 < scanBound)
    (hQ : ∀ h' b, Heap.SameBut a s.heap h' → SetG knd h' a (if k ∈ ks then ks else ks ++ [k]) → Q b { s with heap := h' }) : wpAny (model prog w) A (setAddHashed a x (knd.hash k)) Q E s := by
  obtain ⟨o, es, ep, t, ⟨ho, hex, hd⟩, el, ⟨us, pm, pr⟩, ⟨hb, hf⟩, hr, hl⟩ := R
  have hn : es.size = ks.length := by rw [paired_len pr, ← pm.length_eq, List.length_map, Array.length_toList]
  unfold setAddHashed setAddHashedIn
  refine wpAny_holding (wpAny_bind (wpAny_setState_of ho hd hf ?_)); dsimp only
  rw [byScan_of hsc hb el]; simp only [↓reduceIte]
  unfold setAddByScan
  refine wpAny_bind (wpAny_bind (wpAny_rule (wpAny_bind (wpAny_setScan_of hkey ho hd hf el ?_))))
  cases hfi : es.toList.findIdx? (fun e => knd.is k e.2) with
  | some j =>
    have hm : k ∈ ks := (elems_has pm pr k).mpr (by
      obtain ⟨hj, pj, _⟩ := List.findIdx?_eq_some_iff_getElem.mp hfi
      exact ⟨es.toList[j], List.getElem_mem hj, pj⟩)
    dsimp only
    refine wpAny_pure (wpAny_pure (hQ s.heap _ (Heap.SameBut.refl a s.heap) ?_))
    rw [if_pos hm]
    exact ⟨o, es, ep, t, ⟨ho, hex, hd⟩, el, ⟨us, pm, pr⟩, ⟨hb, hf⟩, hr, hl⟩
  | none =>
    have hm : k ∉ ks := fun z => by
      obtain ⟨e, he, q⟩ := (elems_has pm pr k).mp z
      have := List.findIdx?_eq_none_iff.mp hfi e he
      rw [q] at this; cases this
    dsimp only
    have quiet : ∀ (b : Bool) (s₁ : Shared) (Q' : Unit → Shared → Prop), Q' () s₁ → wpAny (model prog w) A (match b with | true => rule "set.scan.the-table-gave-way" | false => pure ()) Q' E s₁ := fun b s₁ Q' q => by
      cases b <;> first | exact wpAny_pure q | exact wpAny_rule q
    obtain ⟨z1, z2, z3, z4⟩ : _ ∧ _ ∧ _ ∧ _ := ⟨layNew_perm t es (knd.hash k) x, layNew_fits t es (knd.hash k) x, layNew_ris t es (knd.hash k) x hr, layNew_led t es (knd.hash k) x⟩
    generalize layNew t es (knd.hash k) x = Z at z1 z2 z3 z4 ⊢
    obtain ⟨es1, t1, dm, gv⟩ := Z
    simp only at z1 z2 z3 z4 ⊢
    rw [Array.toList_push] at z1
    have el1 : ElemsOf knd es1.toList := (el.push hkey hsc).perm z1
    have hu : ∃ us : List Value, (es1.toList.map Prod.snd).Perm us ∧ Paired (fun k u => knd.is k u = true) (ks ++ [k]) us := ⟨us ++ [x], (z1.map Prod.snd).trans (by rw [List.map_append]; exact pm.append_right _), paired_end hkey pr⟩
    have sz : es1.size < scanBound := by rw [← Array.length_toList, z1.length_eq, List.length_append, Array.length_toList, hn]; exact room
    have hl1 : w.params.followText "set-order" = true ∨ t1.led = true := hl.imp id fun q => by rw [z4]; exact q
    have fin : ∀ h', Heap.SameBut a s.heap h' → SetG knd h' a (ks ++ [k]) → Q true { s with heap := h' } := fun h' sb r => hQ h' true sb (by rw [if_neg hm]; exact r)
    refine wpAny_bind (quiet _ _ _ ?_)
    split
    · rw [hashByValue_scannable 8 hsc]
      refine wpAny_bind (wpAny_pure (add_laid quiet ho hex hd el1 hu sz ?_ ?_ ?_ fun h' sb r => ?_))
      · first | (split <;> first | exact z2 | exact SetTable.fits_plain_off z2) | exact z2
      · first | (split <;> exact z3) | exact z3
      · first | (split <;> exact hl1) | exact hl1
      · exact wpAny_pure (fin h' sb r)
    · refine wpAny_bind (wpAny_pure ?_); simp only [↓reduceIte]
      exact add_laid quiet ho hex hd el1 hu sz z2 z3 hl1 fun h' sb r => wpAny_pure (fin h' sb r)
theorem setG_none {h : Heap} {a : Addr} (e : h.get? a = some (noneYet (!w.params.followText "set-order"))) : SetG knd h a [] :=
  ⟨_, #[], 0, _, ⟨e, ⟨rfl, rfl, rfl⟩, rfl⟩, (fun x hx => by simp at hx), ⟨[], by simp, .nil⟩, ⟨by decide, rfl⟩, List.Pairwise.nil, by
    cases c : w.params.followText "set-order"
    · exact .inr rfl
    · exact .inl rfl⟩
theorem code_set_ours (a : Value) {Q₁ : Value → Shared → Prop} (h : Q₁ (.ref s.heap.objs.size) { s with heap := s.heap.push (noneYet (!w.params.followText "set-order")) }) :
    codeAny (model prog w) A (.call (.builtin "set.__new__") ⟨[.type "set", a], []⟩) (wants Q₁ E) s := by
  have hsub := sub_set_self
  refine codeAny_of_tree (show wpAny _ A.in1 (do checkBuiltinCall "set.__new__" ⟨[.type "set", a], []⟩; again (.builtin "set.__new__" ⟨[.type "set", a], []⟩)) _ _ s from wpAny_bind (wpAny_of_eq (F.newCall_set_1 a) (wpAny_pure ⟨plainId_quiet F.plain_set_new _, codeAny_builtin F.entry_set_new ?_⟩)))
  rw [Around.under_plainId F.plain_set_new _]; unfold Builtin.«set.__new__» Builtin.Frozenset.newClass
  obtain ⟨hp, g, d, tk, os⟩ := s; dsimp only
  wp_walk
  refine wpAny_askSetting (wpAny_pure ?_); dsimp only; simp only [newObj]
  exact wpAny_bind (wpAny_alloc (wpAny_pure (wpAny_pure h)))
/-- the items of a walk are put into the set at Z, one by one -/
theorem addG_each {R : Result → Shared → Prop} {I : Addr} {fp wr : List Addr} {G : Array GenState → Array GenState → Prop} {n : Nat} {Pv : Nat → Value → Prop} {St : Nat → Shared → Prop} (W : WalksS prog w A.in1 I fp wr G n Pv St) (Z : Addr) (hZ : Z ∉ fp)
    (xs : List κ) (hn : xs.length = n) (hb : n + 1 < scanBound) (hv : ∀ i v, Pv i v → ∃ y, xs[i]? = some y ∧ knd.is y v = true ∧ v.scannable = true) :
    ∀ (rest i : Nat) (s : Shared), n - i = rest → i ≤ n → St i s → SetG knd s.heap Z (once (xs.take i)) →
      (∀ s', Moved (Z :: wr) G s s' → SetG knd s'.heap Z (once xs) → R (.ok (.ret .none)) s') →
      codeAny (model prog w) A (.builtin "set.update.loop" ⟨[.ref Z, .ref I], []⟩) R s := by
  have out : Z ∉ wr := fun z => hZ (W.sub _ z)
  have up : ∀ b ∈ wr, b ∈ Z :: wr := fun b z => .tail _ z
  intro rest
  induction rest with
  | zero =>
    intro i s er hi st has fin
    obtain rfl : i = n := by omega
    refine codeAny_builtin F.entry_set_update_loop (by rw [Around.under_plainId F.plain_set_update_loop _]; exact wpAny_bind (W.done s _ _ st fun s1 mv => wpAny_pure (fin s1 (mv.mono up) (by have z := has.keeps (h' := s1.heap) fun o ho => mv.heap Z o out ho; rw [List.take_of_length_le (by omega)] at z; exact z))))
  | succ rest ih =>
    intro i s er hi st has fin
    have lt : i < n := by omega
    refine codeAny_builtin F.entry_set_update_loop (by
      rw [Around.under_plainId F.plain_set_update_loop _]
      refine wpAny_bind (W.item i s _ _ lt st fun v s1 pv st1 mv => ?_)
      obtain ⟨y, ey, ky, sy⟩ := hv i v pv
      have has1 := has.keeps (h' := s1.heap) fun o ho => mv.heap Z o out ho
      have room : (once (xs.take i)).length + 1 < scanBound := by have := once_len (xs.take i); rw [List.length_take] at this; omega
      refine wpAny_bind (wpAny_holding (by
        unfold setAdd
        refine wpAny_holding (wpAny_bind (knd.pyHash ky (addG (s := { s1 with toks := s1.toks + 1 }) ky sy has1 room fun h2 bb sb has2 => ?_)))
        have has3 : SetG knd h2 Z (once (xs.take (i + 1))) := by rw [once_take ey]; exact has2
        refine wpAny_pure ⟨plainId_quiet F.plain_set_update_loop _, ih (i + 1) _ (by omega) lt (W.frame _ s1 _ _ st1 (Nat.le_succ _) fun b z o e => (sb.2 b fun q : b = Z => hZ (q ▸ z)).trans e) has3 fun s3 mv3 has4 => fin s3 (Moved.trans W.gtrans ((mv.mono up).then_heap (Nat.le_succ _) fun b o z e => (sb.2 b fun q : b = Z => z (q ▸ .head _)).trans e) mv3) has4⟩)))
/-- set(xs), xs a list of keys of one kind -/
theorem set_of_listG {E : Value → Shared → Prop} {s : Shared} {l : Addr} {items : Array Value} {Q : Value → Shared → Prop} (hh : A.handled = none) (hl : s.heap.IsList l items) (xs : List κ) (hn : xs.length = items.size) (hb : items.size + 1 < scanBound)
    (hv : ∀ (i : Nat) (v : Value), items[i]? = some v → ∃ y : κ, xs[i]? = some y ∧ knd.is y v = true ∧ v.scannable = true)
    (h : ∀ (h' : Heap) (tk : Nat), SetG knd h' s.heap.objs.size (once xs) → (∀ b o, s.heap.get? b = some o → h'.get? b = some o) → Q (.ref s.heap.objs.size) { s with heap := h', toks := tk }) :
    wpAny (model prog w) A (call (.type "set") [.ref l]) Q E s := by
  have T := PySem.F.called_set
  obtain ⟨_, _, hmro⟩ := T.mro
  have t1 := T.made
  have t2 := T.sub
  have t3 := T.notType
  have t4 := T.canCreate
  have t5 := PySem.F.typeCall_set_1 (.ref l)
  refine wpAny_call (codeAny_of_tree (show wpAny _ _ (callAny (.type "set") _) _ _ _ from wpAny_pure ⟨Code.quiet_builtin _ (by decide +kernel), codeAny_builtin PySem.F.entry_type_call ?_⟩))
  rw [Around.under_plain (weight_type_call_type "set" [.ref l] []) rfl]
  repeat (any_goals (first | assumption | wp_step))
  refine codeAny_mono (code_set_ours (.ref l) (E := E) (Q₁ := fun u s1 => u = .ref s.heap.objs.size ∧ s1 = { s with heap := s.heap.push (noneYet (!w.params.followText "set-order")) }) ⟨rfl, rfl⟩) fun r s1 hr => ?_
  match r, hr with
  | .error _, hr => exact hr
  | .ok .next, hr => exact hr.elim
  | .ok .brk, hr => exact hr.elim
  | .ok .cont, hr => exact hr.elim
  | .ok (.ret _), ⟨e1, e2⟩ =>
    subst e1
    subst e2
    have at0 : (s.heap.push (noneYet (!w.params.followText "set-order"))).get? s.heap.objs.size = some (noneYet (!w.params.followText "set-order")) := Heap.get?_push_size _ rfl
    have ty0 : Shared.TypeIs { s with heap := s.heap.push (noneYet (!w.params.followText "set-order")) } (.ref s.heap.objs.size) "set" := ⟨_, at0, rfl⟩
    have t6 := T.init.lookup
    have t7 := T.init.bind (.ref s.heap.objs.size)
    repeat (any_goals (first | assumption | wp_step))
    refine codeAny_mono (codeAny_call_builtin (R := wants (fun r s2 => r = .none ∧ ∃ h' tk, s2 = { s with heap := h', toks := tk } ∧ SetG knd h' s.heap.objs.size (once xs) ∧ ∀ b o, s.heap.get? b = some o → h'.get? b = some o) E) T.init.plain PySem.F.entry_set_init (check_set_init_1 ty0 ?_)) fun r2 s2 hr2 => ?_
    · obtain ⟨⟨lc, ld, lo, ls⟩, hol, hcl, nl, hdl⟩ := hl
      cases (show lc = _ from hcl)
      cases (show lo = _ from hdl)
      have at1 := Heap.get?_push_of_some (noneYet (!w.params.followText "set-order")) hol
      have u1 := PySem.F.sub_list_set
      have u2 := PySem.F.sub_list_frozenset
      have u3 : (Value.type "list" == Value.type "dict") = false := rfl
      have isl : (s.heap.push (noneYet (!w.params.followText "set-order"))).IsList l items := ⟨_, at1, rfl, nl, rfl⟩
      unfold Builtin.«set.__init__» noKeywords Builtin.Frozenset.updateFrom
      generalize hPI : pyIter = PI
      wp_walk
      subst hPI
      refine wpAny_pyIter_list isl (wpAny_bind (wpAny_runValue ?_))
      have lt := Heap.lt_size hol
      have hh3 : A.in1.in1.in1.handled = none := by simp [hh]
      have ne1 : l ≠ (s.heap.push (noneYet (!w.params.followText "set-order"))).objs.size := by rw [Heap.size_push]; exact Nat.ne_of_lt (Nat.lt_succ_of_lt lt)
      have ne2 : s.heap.objs.size ∉ [(s.heap.push (noneYet (!w.params.followText "set-order"))).objs.size, l] := fun z => (List.mem_cons.mp z).elim (fun q => by rw [Heap.size_push] at q; exact absurd q (Nat.ne_of_lt (Nat.lt_succ_self _))) fun q => absurd (List.mem_singleton.mp q) (Nat.ne_of_gt lt)
      refine addG_each ((Walks.list hh3 _ l ne1 items).toS) s.heap.objs.size ne2 xs hn hb hv (items.size - 0) 0 _ (by omega) (Nat.zero_le _) ⟨⟨_, Heap.get?_push_size _ rfl, rfl, rfl⟩, (isl.push _)⟩ ?_ ?_
      · exact setG_none (Heap.get?_push_of_some _ at0)
      · rintro ⟨h', g', d', tk', os'⟩ mv has
        have eg : g' = s.gens := mv.gens
        have ed : d' = s.drawn := mv.drawn
        have eo : os' = s.os := mv.os
        cases eg; cases ed; cases eo
        show wpAny _ _ _ _ _ _
        refine wpAny_pure ?_
        show wpAny _ _ (ret Value.none) _ _ _
        refine wpAny_pure ⟨rfl, h', tk', rfl, has, fun b o e => ?_⟩
        have lb := Heap.lt_size e
        exact mv.heap b o (fun z => (List.mem_cons.mp z).elim (fun q => absurd q (Nat.ne_of_lt lb)) fun q => by
          have q := List.mem_singleton.mp q
          rw [Heap.size_push] at q
          exact absurd q (Nat.ne_of_lt (Nat.lt_succ_of_lt lb))) (Heap.get?_push_of_some _ (Heap.get?_push_of_some _ e))
    · match r2, hr2 with
      | .error _, hr2 => exact hr2
      | .ok .next, hr2 => exact hr2.elim
      | .ok .brk, hr2 => exact hr2.elim
      | .ok .cont, hr2 => exact hr2.elim
      | .ok (.ret _), ⟨e3, h', tk, e4, has, kp⟩ =>
        subst e3
        subst e4
        repeat (any_goals (first | assumption | wp_step))
        exact h _ _ has kp
end
end DL

set_option Elab.async false
set_option linter.all false
set_option maxRecDepth 100000
set_option maxHeartbeats 2000000
set_option autoImplicit false
/-! sorted(set(xs)), xs a list of texts. -/
namespace DL
open PySem PySem.Spec PyProof.Rows L2
def txV : Value → Str
  | .str x _ => x
  | _ => ⟨#[]⟩
theorem vals_tx : ∀ vs : List Value, (∀ v ∈ vs, ∃ x t, v = Value.str x t) → Vals ((vs.map txV).map V.str) vs
  | [], _ => .nil
  | v :: vs, h => by
    obtain ⟨x, t, rfl⟩ := h v List.mem_cons_self
    exact .cons ⟨t, rfl⟩ (vals_tx vs fun u hu => h u (List.mem_cons_of_mem _ hu))
section
variable {prog : Program} {w : World} {A : Around} {E : Value → Shared → Prop} {s : Shared}
theorem txt_sortable {a : Addr} {vs : List Value} (h : ∀ v ∈ vs, ∃ x t, v = Value.str x t) (h2 : 2 ≤ vs.length) : SrtO.SortableO prog w A s a vs fun v u => decide ((txV v).cps.toList < (txV u).cps.toList) := by
  intro h' _
  refine ⟨oneType', fun Q E hq => ?_, fun p q hp hq => ?_⟩
  · have hS := strsAre_map vs h
    match vs, hS, h2 with
    | v1 :: v2 :: rest, hS, _ => rw [keyKind_strs hS]; exact wpAny_pure hq
    | [], _, h => exact absurd h (by decide)
    | [v], _, h => exact absurd h (by simp)
  · obtain ⟨x, t, ex⟩ := h _ hp
    obtain ⟨y, u, ey⟩ := h _ hq
    rw [keyLt'_oneType]
    show wpAny (model prog w) A (oneLt' true p.1 q.1) (fun r s' => s' = _ ∧ r = decide ((txV p.1).cps.toList < (txV q.1).cps.toList)) (fun _ _ => False) _
    rw [ex, ey]
    exact oneLt_str ⟨rfl, rfl⟩
end
/-- a set that can be walked -/
def SetGO {P : Program} {w : World} {κ : Type} [DecidableEq κ] (knd : KeyKind P w κ) (a : Addr) (ks : List κ) : HO := .ext fun h => SetG knd h a ks
theorem setGO_ok {P : Program} {w : World} {κ : Type} [DecidableEq κ] {knd : KeyKind P w κ} {a : Addr} {ks : List κ} {H : Hp} {h : Heap} (R : SetG knd h a ks) : ObjOk P w H h a (SetGO knd a ks) := by
  obtain ⟨o, es, ep, t, ⟨ho, r1⟩, r⟩ := id R
  exact ⟨R, ⟨o, ho⟩, fun h1 h2 q k => q.keeps k⟩
def rSetS (P : Program) (w : World) (K : PySem.W.Frag) : List V → Hp → VK → Prop := fun vs H Q => ∃ (l : Addr) (xs : List Str), vs = [.ref l] ∧ SqL K H l (xs.map V.str) ∧ xs.length ≤ 1000 ∧ ∀ p, H p = none → Q (.ref p) (upd H p (SetGO (PySem.strKind P w) p (once xs)))
theorem kx_setS {X : Cx} {P : Program} {w : World} (K : PySem.W.Frag) (hK : X.K = K) (hP : X.prog = P) (hw : X.w = w) (hc : X.calm = true) : CallR X (.type "set") (rSetS P w K) := by
  subst hK; subst hP; subst hw
  intro pins s σ H vs us Q I r h
  obtain ⟨l, xs, rfl, hq, hl, q⟩ := h
  obtain rfl := Vals.ref1 r
  obtain ⟨its, rv, pl, hz⟩ := I.list hq
  have el : xs.length = its.toArray.size := by have := rv.length; rw [List.length_map] at this; simpa using this
  refine set_of_listG (knd := PySem.strKind X.prog X.w) (I.ok.hd hc) pl.isList xs el (by rw [← el]; unfold scanBound; omega) (fun i v hv => ?_) fun h' tk has kp => ?_
  · obtain ⟨y, ey, t, rfl⟩ := strs_get rv i v (by simpa using hv)
    exact ⟨y, ey, strKind_is _ _ _ _, rfl⟩
  · have hn : H s.heap.objs.size = none := I.hok.fresh (Nat.le_refl _)
    have I1 : Inv X pins σ H { s with heap := h', toks := tk } := I.kept (t' := tk) kp
    exact ⟨.ref s.heap.objs.size, _, I1.take (h' := h') (t' := tk) (fun b ob _ e => e) (I.fpOk (Nat.le_refl _) hn) (setGO_ok has), rfl, q _ hn⟩
theorem is_txt {P : Program} {w : World} {k : Str} {u : Value} (h : (PySem.strKind P w).is k u = true) : ∃ t, u = Value.str k t := Value.isStrOf_shape h
def rSortG (P : Program) (w : World) : List V → Hp → VK → Prop := fun vs H Q => ∃ (a : Addr) (ks : List Str), vs = [.ref a] ∧ H a = some (SetGO (PySem.strKind P w) a ks) ∧
  ∀ (ys : List Str) (l : Addr), ys.Perm ks → SortS ys → H l = none → Q (.ref l) (upd H l (.lst (ys.map V.str)))
theorem kx_sortG {X : Cx} {P : Program} {w : World} (hP : X.prog = P) (hw : X.w = w) (hc : X.calm = true) : CallR X (.builtin "sorted") (rSortG P w) := by
  subst hP; subst hw
  intro pins s σ H vs us Q I r h
  obtain ⟨a, ks, rfl, ha, q⟩ := h
  obtain rfl := Vals.ref1 r
  obtain ⟨o, es, ep, t, ⟨ho, hex, hd⟩, el, ⟨us, pm, pr⟩, ⟨hb, hf⟩, hr, hl⟩ := (show ObjOk X.prog X.w H s.heap a (SetGO (PySem.strKind X.prog X.w) a ks) from I.hok a _ ha).1
  have hh : X.A.handled = none := I.ok.hd hc
  refine Calls.call_function_entry kind_sorted plain_sorted entry_sorted (args_sorted1 _) ?_; unfold Builtin.«sorted»
  refine wpAny_bind (m := checkCount "sorted" 1 1 _) (wpAny_pure (wpAny_bind (collect_set (A := X.A.in1) hh ⟨o, ho, hex.1, hd⟩ hf hb hr hl fun s1 vs1 k1 hz g1 o1x pm1 => ?_)))
  have vt : ∀ v ∈ us, ∃ x t, v = Value.str x t := by
    have all : ∀ {ks : List Str} {us : List Value}, Paired (fun k u => (PySem.strKind X.prog X.w).is k u = true) ks us → ∀ v ∈ us, ∃ x t, v = Value.str x t := by
      intro ks us p
      induction p with
      | nil => intro v hv; exact nomatch hv
      | @cons k u ks us h t ih =>
        intro v hv
        rcases List.mem_cons.mp hv with rfl | hv
        · obtain ⟨t, rfl⟩ := is_txt h; exact ⟨k, t, rfl⟩
        · exact ih v hv
    exact all pr
  have pv : vs1.Perm us := pm1.trans pm
  have vt1 : ∀ v ∈ vs1, ∃ x t, v = Value.str x t := fun v hv => vt v (pv.mem_iff.mp hv)
  have tx : us.map txV = ks := by
    have all : ∀ {ks : List Str} {us : List Value}, Paired (fun k u => (PySem.strKind X.prog X.w).is k u = true) ks us → us.map txV = ks := by
      intro ks us p
      induction p with
      | nil => rfl
      | @cons k u ks us h t ih => obtain ⟨t, rfl⟩ := is_txt h; rw [List.map_cons, ih]; rfl
    exact all pr
  have hsz : vs1.length < scanBound := by rw [pv.length_eq, ← pm.length_eq, List.length_map, Array.length_toList]; exact hb
  have hz1 : vs1.length ≤ sizeLine := fits_of_scanBound hsz
  refine wpAny_bind (wpAny_newList ?_ hz1)
  have hoL : (s1.heap.push (seqObj "list" vs1.toArray 0)).get? s1.heap.objs.size = some (seqObj "list" vs1.toArray 0) := Heap.get?_push_size _ rfl
  refine wpAny_bind (wpAny_holding (wpAny_call_entry slot_list_sort ⟨_, hoL, rfl⟩ entry_list_sort (SrtO.list_sort_ord (s := { s1 with heap := s1.heap.push (seqObj "list" vs1.toArray 0) }) (swo_txt txV) hoL hz1 (fun h2 => txt_sortable vt1 h2) fun out o1 o2 => ⟨_, rfl, wpAny_pure ⟨_, rfl, ?_⟩⟩) (args_list_sort _)))
  have kp : ∀ b u, s.heap.get? b = some u → (sortedHeap (s1.heap.push (seqObj "list" vs1.toArray 0)) s1.heap.objs.size vs1 out.toArray).get? b = some u := fun b u e => by
    have e1 := k1 b u e
    have lt := Heap.lt_size e1
    exact (sortedHeap_old (Nat.ne_of_lt lt) (by rw [Heap.size_push]; exact Nat.lt_succ_of_lt lt)).trans (Heap.get?_push_of_some _ e1)
  have hn : H s1.heap.objs.size = none := I.hok.fresh hz
  obtain ⟨c, hc2⟩ := sortedHeap_at (vs := vs1) (out := out.toArray) hoL
  have po : (out.map txV).Perm ks := by rw [← tx]; exact (o2.perm.trans pv).map txV
  have so : SortS (out.map txV) := List.pairwise_map.mpr (o1.imp fun {x y} h => by
    have h' : decide ((txV y).cps.toList < (txV x).cps.toList) = false := h
    rw [← ltCps_eq] at h'
    exact h')
  have ok : ObjOk X.prog X.w (upd H s1.heap.objs.size (.lst ((out.map txV).map V.str))) (sortedHeap (s1.heap.push (seqObj "list" vs1.toArray 0)) s1.heap.objs.size vs1 out.toArray) s1.heap.objs.size (.lst ((out.map txV).map V.str)) :=
    ⟨by rw [List.length_map, List.length_map, o2.perm.length_eq]; exact hz1, out, c, vals_tx out fun v hv => vt1 v (o2.perm.mem_iff.mp hv), hc2⟩
  obtain ⟨hp1, gn1, dr1, tk1, os1⟩ := s1
  have eg : gn1 = s.gens := g1
  have eo : os1 = s.os := o1x
  subst eo
  have J : Inv X pins σ (upd H hp1.objs.size (.lst ((out.map txV).map V.str))) { s with heap := sortedHeap (hp1.push (seqObj "list" vs1.toArray 0)) hp1.objs.size vs1 out.toArray, gens := gn1, drawn := dr1, toks := tk1 } :=
    I.call (ch := []) (Un.laid kp hz hn) (I.hok.laid kp hz ok) (by rw [eg]; exact I.bare) (fun _ z => nomatch z)
  exact ⟨.ref hp1.objs.size, _, J, rfl, q _ _ po so hn⟩
/-! ### told of data -/
def tSrtSet (P : Program) (w : World) (K : PySem.W.Frag) (ta : TE) : TE := tCB (rSortG P w) (tCons (tCB (rSetS P w K) (tCons ta tNil)) tNil)
section
variable {K : PySem.W.Frag} {δ : List (Option D)} {m : Mem} {Q : D → Mem → Prop} {ta : TE} {P : Program} {w : World}
theorem ew_srtSet (h : EW K ta δ m fun x m1 => ∃ xs : List Str, SeqIn m1 x (xs.map .str) ∧ xs.length ≤ 1000 ∧ Q (.lst ((srtS (once xs)).map .str)) m1) : EW K (tSrtSet P w K ta) δ m Q := fun σ H s M QQ k =>
  h σ H s M _ fun x m1 v1 H1 ⟨xs, sq, hl, q⟩ s1 M1 r1 => by
    obtain ⟨p, vs, rfl, e, r⟩ := sq.get M1 r1
    obtain rfl := RdL.strs_v r
    refine ⟨p, xs, rfl, SqL.of e, hl, fun z hz => ⟨z, once xs, rfl, upd_same, fun ys l pm so hl0 => ?_⟩⟩
    obtain rfl := srtS_of pm so
    obtain ⟨M2, s2⟩ := M1.new (o := SetGO (PySem.strKind P w) z (once xs)) hz
    obtain ⟨M3, s3, r3⟩ := new_lst M2 (RdL.strs (ns := srtS (once xs))) hl0
    exact k _ m1 _ _ q (s1.trans (s2.trans s3)) M3 r3
/-- dict(xs), xs a list of pairs, some keys of which are alike -/
def mrgD (acc more : List (Key × D)) : List (Key × D) := more.foldl (fun a p => putD a p.1 p.2) acc
theorem mrg_rel {F : Hp} : ∀ {ws : List (Key × V)} {more : List (Key × D)} {xs : List (Key × V)} {acc : List (Key × D)}, ws.map Prod.fst = more.map Prod.fst → RdL K F (ws.map Prod.snd) (more.map Prod.snd) → xs.map Prod.fst = acc.map Prod.fst → RdL K F (xs.map Prod.snd) (acc.map Prod.snd) →
    (mergeK xs ws).map Prod.fst = (mrgD acc more).map Prod.fst ∧ RdL K F ((mergeK xs ws).map Prod.snd) ((mrgD acc more).map Prod.snd)
  | [], [], _, _, _, _, n, r => ⟨n, r⟩
  | [], _ :: _, _, _, h, _, _, _ => by simp at h
  | _ :: _, [], _, _, h, _, _, _ => by simp at h
  | u :: ws, p :: more, xs, acc, h, g, n, r => by
    simp only [List.map_cons, List.cons.injEq] at h
    rw [List.map_cons, List.map_cons] at g
    cases g with
    | cons g1 g2 =>
      obtain ⟨a, b⟩ := putD_rel (k := p.1) g1 n r
      have := mrg_rel (xs := putK xs p.1 u.2) (acc := putD acc p.1 p.2) h.2 g2 a b
      unfold mergeK mrgD at *
      rw [List.foldl_cons, List.foldl_cons, h.1]
      exact this
theorem cw_dictG {kvs : List (Key × D)} (q : Q (.dic (mrgD [] kvs)) m) : CW K (rDictP K) [.lst (kvs.map pairKD)] m Q := fun H vs M a QQ k => by
  cases a with
  | cons a n =>
    cases n
    obtain ⟨p, xs, rfl, e, r⟩ := lst_at a
    obtain ⟨ps, ws, rfl, hp, hk, hr⟩ := pairs_at r
    refine ⟨p, ps, ws, rfl, SqL.of e, paired_mono hide_le hp, fun z hz => ?_⟩
    obtain ⟨M2, s2⟩ := M.new (o := .dK (mergeK [] ws)) hz
    have rel := mrg_rel (xs := []) (acc := []) hk hr rfl .nil
    refine k _ m _ _ q s2 M2 (.dic ?_ rel.1 (rel.2.mono s2))
    rw [hide_new M hz]
    exact upd_same
end
end DL

set_option Elab.async false
set_option linter.all false
set_option maxRecDepth 100000
set_option maxHeartbeats 4000000
set_option autoImplicit false
namespace DL
open PySem PySem.Spec PyProof.Rows L2
def top (i : Nat) : Stmt := PySem.Challenge.pw_anycut_k15_equal_rules.main.body.getD i (.Pass ⟨0, 0, 0, 0⟩)
def clsBody : Stmt → List Stmt
  | .ClassDef (body := b) .. => b
  | _ => []
abbrev s_Rule___eq__ : Stmt := (clsBody (top 12)).getD 4 (.Pass ⟨0, 0, 0, 0⟩)
abbrev N_Rule___eq__ : List Str := ["self", "other"]
theorem sc_Rule___eq__ : FnScope N_Rule___eq__ ["self", "other"] (defScope s_Rule___eq__) := ⟨rfl, rfl, rfl, by decide +kernel, rfl, by decide +kernel, by decide +kernel⟩
abbrev s__law_both_ways : Stmt := top 20
abbrev N__law_both_ways : List Str := ["first", "second"]
theorem sc__law_both_ways : FnScope N__law_both_ways ["first", "second"] (defScope s__law_both_ways) := ⟨rfl, rfl, rfl, by decide +kernel, rfl, by decide +kernel, by decide +kernel⟩
abbrev s_Rule_ranks : Stmt := (clsBody (top 12)).getD 3 (.Pass ⟨0, 0, 0, 0⟩)
abbrev N_Rule_ranks : List Str := ["self"]
theorem sc_Rule_ranks : FnScope N_Rule_ranks ["self"] (defScope s_Rule_ranks) := ⟨rfl, rfl, rfl, by decide +kernel, rfl, by decide +kernel, by decide +kernel⟩
abbrev s_Rule_keyed : Stmt := (clsBody (top 12)).getD 2 (.Pass ⟨0, 0, 0, 0⟩)
abbrev N_Rule_keyed : List Str := ["self"]
theorem sc_Rule_keyed : FnScope N_Rule_keyed ["self"] (defScope s_Rule_keyed) := ⟨rfl, rfl, rfl, by decide +kernel, rfl, by decide +kernel, by decide +kernel⟩
abbrev s_Rule_early : Stmt := (clsBody (top 12)).getD 1 (.Pass ⟨0, 0, 0, 0⟩)
abbrev N_Rule_early : List Str := ["self"]
theorem sc_Rule_early : FnScope N_Rule_early ["self"] (defScope s_Rule_early) := ⟨rfl, rfl, rfl, by decide +kernel, rfl, by decide +kernel, by decide +kernel⟩
abbrev s_CutError___init__ : Stmt := (clsBody (top 2)).getD 0 (.Pass ⟨0, 0, 0, 0⟩)
abbrev N_CutError___init__ : List Str := ["self", "value"]
theorem sc_CutError___init__ : FnScope N_CutError___init__ ["self", "value"] (defScope s_CutError___init__) := ⟨rfl, rfl, rfl, by decide +kernel, rfl, by decide +kernel, by decide +kernel⟩
abbrev s_is_name : Stmt := top 8
abbrev N_is_name : List Str := ["word", "letter"]
theorem sc_is_name : FnScope N_is_name ["word"] (defScope s_is_name) := ⟨rfl, rfl, rfl, by decide +kernel, rfl, by decide +kernel, by decide +kernel⟩
abbrev s_check_name : Stmt := top 9
abbrev N_check_name : List Str := ["word"]
theorem sc_check_name : FnScope N_check_name ["word"] (defScope s_check_name) := ⟨rfl, rfl, rfl, by decide +kernel, rfl, by decide +kernel, by decide +kernel⟩
abbrev s_check_rule : Stmt := top 11
abbrev N_check_rule : List Str := ["early", "keyed", "ranks", "names", "word", "seen", "name"]
theorem sc_check_rule : FnScope N_check_rule ["early", "keyed", "ranks"] (defScope s_check_rule) := ⟨rfl, rfl, rfl, by decide +kernel, rfl, by decide +kernel, by decide +kernel⟩
abbrev s_Rule___init__ : Stmt := (clsBody (top 12)).getD 0 (.Pass ⟨0, 0, 0, 0⟩)
abbrev N_Rule___init__ : List Str := ["self", "early", "keyed", "ranks", "keys", "places", "name"]
theorem sc_Rule___init__ : FnScope N_Rule___init__ ["self", "early", "keyed", "ranks"] (defScope s_Rule___init__) := ⟨rfl, rfl, rfl, by decide +kernel, rfl, by decide +kernel, by decide +kernel⟩
abbrev s__law_sorted : Stmt := top 19
abbrev N__law_sorted : List Str := ["drawn", "left", "duo"]
theorem sc__law_sorted : FnScope N__law_sorted ["drawn"] (defScope s__law_sorted) := ⟨rfl, rfl, rfl, by decide +kernel, rfl, by decide +kernel, by decide +kernel⟩
abbrev s__law_toss : Stmt := top 15
abbrev N__law_toss : List Str := ["kit", "many", "taken", "mixed"]
theorem sc__law_toss : FnScope N__law_toss ["kit", "many"] (defScope s__law_toss) := ⟨rfl, rfl, rfl, by decide +kernel, rfl, by decide +kernel, by decide +kernel⟩
abbrev s__law_changed : Stmt := top 18
abbrev N__law_changed : List Str := ["kit", "drawn", "lists", "way", "at", "spot", "rank", "mine", "its", "label", "thing", "some"]
theorem sc__law_changed : FnScope N__law_changed ["kit", "drawn"] (defScope s__law_changed) := ⟨rfl, rfl, rfl, by decide +kernel, rfl, by decide +kernel, by decide +kernel⟩
abbrev s__law_tags : Stmt := top 16
abbrev N__law_tags : List Str := ["kit", "many", "letters", "way", "at", "texts_here", "stem", "spot", "pace", "k", "turn"]
theorem sc__law_tags : FnScope N__law_tags ["kit", "many"] (defScope s__law_tags) := ⟨rfl, rfl, rfl, by decide +kernel, rfl, by decide +kernel, by decide +kernel⟩
abbrev s__law_drawn : Stmt := top 17
abbrev N__law_drawn : List Str := ["kit", "names_here", "labels", "share", "early_here", "keys_here", "ranked", "far", "label"]
theorem sc__law_drawn : FnScope N__law_drawn ["kit"] (defScope s__law_drawn) := ⟨rfl, rfl, rfl, by decide +kernel, rfl, by decide +kernel, by decide +kernel⟩
abbrev s__law_right : Stmt := top 21
abbrev N__law_right : List Str := ["kit", "drawn", "mate", "some", "pairs_here", "first", "second", "alike", "unlike", "twin", "things", "duo", "thing"]
theorem sc__law_right : FnScope N__law_right ["kit"] (defScope s__law_right) := ⟨rfl, rfl, rfl, by decide +kernel, rfl, by decide +kernel, by decide +kernel⟩
abbrev s__law_kit : Stmt := top 14
abbrev N__law_kit : List Str := ["script", "place", "figure", "start"]
theorem sc__law_kit : FnScope N__law_kit ["script", "place"] (defScope s__law_kit) := ⟨rfl, rfl, rfl, by decide +kernel, rfl, by decide +kernel, by decide +kernel⟩
abbrev s_law : Stmt := top 22
abbrev N_law : List Str := ["script", "place", "kit", "turn"]
theorem sc_law : FnScope N_law ["script"] (defScope s_law) := ⟨rfl, rfl, rfl, by decide +kernel, rfl, by decide +kernel, by decide +kernel⟩
structure Ads where
  c_CutError : Addr
  c_DoubleName : Addr
  c_InvalidName : Addr
  c_Rule : Addr
  f_Rule___eq__ : Addr
  f__law_both_ways : Addr
  f_Rule_ranks : Addr
  f_Rule_keyed : Addr
  f_Rule_early : Addr
  f_CutError___init__ : Addr
  f_is_name : Addr
  f_check_name : Addr
  f_check_rule : Addr
  f_Rule___init__ : Addr
  f__law_sorted : Addr
  f__law_toss : Addr
  f__law_changed : Addr
  f__law_tags : Addr
  f__law_drawn : Addr
  f__law_right : Addr
  f__law_kit : Addr
  f_law : Addr
structure Txt (K : PySem.W.Frag) (mg : Str → Option Value) (a : Ads) : Prop where
  n_abs : mg "abs" = none
  n_all : mg "all" = none
  n_dict : mg "dict" = none
  n_int : mg "int" = none
  n_isinstance : mg "isinstance" = none
  n_len : mg "len" = none
  n_list : mg "list" = none
  n_max : mg "max" = none
  n_min : mg "min" = none
  n_range : mg "range" = none
  n_repr : mg "repr" = none
  n_set : mg "set" = none
  n_sorted : mg "sorted" = none
  n_str : mg "str" = none
  n_tuple : mg "tuple" = none
  g_LETTERS : ∃ u, mg "LETTERS" = some u ∧ RelV (.str "abcdefghijklmnopqrstuvwxyz") u
  g_MOST_LETTERS : ∃ u, mg "MOST_LETTERS" = some u ∧ RelV (.int 8) u
  g_CutError : mg "CutError" = some (.ref a.c_CutError)
  g_DoubleName : mg "DoubleName" = some (.ref a.c_DoubleName)
  g_InvalidName : mg "InvalidName" = some (.ref a.c_InvalidName)
  g_Rule : mg "Rule" = some (.ref a.c_Rule)
  cl_Rule : Cls K a.c_Rule
  na_Rule__early : NoAttr K a.c_Rule "_early"
  na_Rule__keyed : NoAttr K a.c_Rule "_keyed"
  na_Rule__ranks : NoAttr K a.c_Rule "_ranks"
  na_Rule_value : NoAttr K a.c_Rule "value"
  er_CutError : ErrC K a.c_CutError a.f_CutError___init__
  xf_CutError : XfC K a.c_CutError
  xc_CutError : ExcC K a.c_CutError
  su_CutError_CutError : PySem.W.subIn K (.ref a.c_CutError) (.ref a.c_CutError) = some true
  su_CutError_DoubleName : PySem.W.subIn K (.ref a.c_CutError) (.ref a.c_DoubleName) = some false
  su_CutError_InvalidName : PySem.W.subIn K (.ref a.c_CutError) (.ref a.c_InvalidName) = some false
  er_DoubleName : ErrC K a.c_DoubleName a.f_CutError___init__
  xf_DoubleName : XfC K a.c_DoubleName
  xc_DoubleName : ExcC K a.c_DoubleName
  su_DoubleName_CutError : PySem.W.subIn K (.ref a.c_DoubleName) (.ref a.c_CutError) = some true
  su_DoubleName_DoubleName : PySem.W.subIn K (.ref a.c_DoubleName) (.ref a.c_DoubleName) = some true
  su_DoubleName_InvalidName : PySem.W.subIn K (.ref a.c_DoubleName) (.ref a.c_InvalidName) = some false
  er_InvalidName : ErrC K a.c_InvalidName a.f_CutError___init__
  xf_InvalidName : XfC K a.c_InvalidName
  xc_InvalidName : ExcC K a.c_InvalidName
  su_InvalidName_CutError : PySem.W.subIn K (.ref a.c_InvalidName) (.ref a.c_CutError) = some true
  su_InvalidName_DoubleName : PySem.W.subIn K (.ref a.c_InvalidName) (.ref a.c_DoubleName) = some false
  su_InvalidName_InvalidName : PySem.W.subIn K (.ref a.c_InvalidName) (.ref a.c_InvalidName) = some true
  h_Rule___eq__ : Has K "__eq__" "Rule.__eq__" s_Rule___eq__ a.f_Rule___eq__ ["self", "other"]
  eq_Rule : PySem.W.findIn K (.ref a.c_Rule) "__eq__" = some (some (.ref a.f_Rule___eq__)) ∧ PySem.W.isFn K (.ref a.f_Rule___eq__) = true
  h__law_both_ways : Has K "_law_both_ways" "_law_both_ways" s__law_both_ways a.f__law_both_ways ["first", "second"]
  g__law_both_ways : mg "_law_both_ways" = some (.ref a.f__law_both_ways)
  k__law_both_ways : PySem.W.keepIn K (.ref a.f__law_both_ways) = true
  h_Rule_ranks : Has K "ranks" "Rule.ranks" s_Rule_ranks a.f_Rule_ranks ["self"]
  p_Rule_ranks : ∃ q, PropOf K a.c_Rule "ranks" q a.f_Rule_ranks
  h_Rule_keyed : Has K "keyed" "Rule.keyed" s_Rule_keyed a.f_Rule_keyed ["self"]
  p_Rule_keyed : ∃ q, PropOf K a.c_Rule "keyed" q a.f_Rule_keyed
  h_Rule_early : Has K "early" "Rule.early" s_Rule_early a.f_Rule_early ["self"]
  p_Rule_early : ∃ q, PropOf K a.c_Rule "early" q a.f_Rule_early
  h_CutError___init__ : Has K "__init__" "CutError.__init__" s_CutError___init__ a.f_CutError___init__ ["self", "value"]
  h_is_name : Has K "is_name" "is_name" s_is_name a.f_is_name ["word"]
  g_is_name : mg "is_name" = some (.ref a.f_is_name)
  k_is_name : PySem.W.keepIn K (.ref a.f_is_name) = true
  h_check_name : Has K "check_name" "check_name" s_check_name a.f_check_name ["word"]
  g_check_name : mg "check_name" = some (.ref a.f_check_name)
  k_check_name : PySem.W.keepIn K (.ref a.f_check_name) = true
  h_check_rule : Has K "check_rule" "check_rule" s_check_rule a.f_check_rule ["early", "keyed", "ranks"]
  g_check_rule : mg "check_rule" = some (.ref a.f_check_rule)
  k_check_rule : PySem.W.keepIn K (.ref a.f_check_rule) = true
  h_Rule___init__ : Has K "__init__" "Rule.__init__" s_Rule___init__ a.f_Rule___init__ ["self", "early", "keyed", "ranks"]
  mk_Rule : Mk K a.c_Rule a.f_Rule___init__
  h__law_sorted : Has K "_law_sorted" "_law_sorted" s__law_sorted a.f__law_sorted ["drawn"]
  g__law_sorted : mg "_law_sorted" = some (.ref a.f__law_sorted)
  k__law_sorted : PySem.W.keepIn K (.ref a.f__law_sorted) = true
  h__law_toss : Has K "_law_toss" "_law_toss" s__law_toss a.f__law_toss ["kit", "many"]
  g__law_toss : mg "_law_toss" = some (.ref a.f__law_toss)
  k__law_toss : PySem.W.keepIn K (.ref a.f__law_toss) = true
  h__law_changed : Has K "_law_changed" "_law_changed" s__law_changed a.f__law_changed ["kit", "drawn"]
  g__law_changed : mg "_law_changed" = some (.ref a.f__law_changed)
  k__law_changed : PySem.W.keepIn K (.ref a.f__law_changed) = true
  h__law_tags : Has K "_law_tags" "_law_tags" s__law_tags a.f__law_tags ["kit", "many"]
  g__law_tags : mg "_law_tags" = some (.ref a.f__law_tags)
  k__law_tags : PySem.W.keepIn K (.ref a.f__law_tags) = true
  h__law_drawn : Has K "_law_drawn" "_law_drawn" s__law_drawn a.f__law_drawn ["kit"]
  g__law_drawn : mg "_law_drawn" = some (.ref a.f__law_drawn)
  k__law_drawn : PySem.W.keepIn K (.ref a.f__law_drawn) = true
  h__law_right : Has K "_law_right" "_law_right" s__law_right a.f__law_right ["kit"]
  g__law_right : mg "_law_right" = some (.ref a.f__law_right)
  k__law_right : PySem.W.keepIn K (.ref a.f__law_right) = true
  h__law_kit : Has K "_law_kit" "_law_kit" s__law_kit a.f__law_kit ["script", "place"]
  g__law_kit : mg "_law_kit" = some (.ref a.f__law_kit)
  k__law_kit : PySem.W.keepIn K (.ref a.f__law_kit) = true
  h_law : Has K "law" "law" s_law a.f_law ["script"]
  g_law : mg "law" = some (.ref a.f_law)
  k_law : PySem.W.keepIn K (.ref a.f_law) = true
  kb_check_name_1 : KBS K a.f_check_name ["word"] 1 [] [0] []
  kb_check_rule_3 : KBS K a.f_check_rule ["early", "keyed", "ranks"] 3 [] [0, 1, 2] []
  ne_Rule : NeOwn K a.c_Rule
  odd_Rule : OddC K a.c_Rule
  oi_Rule : OddI K a.c_Rule
  io_Rule : IsOwn K a.c_Rule
  b_law : ∀ fd, FdAt K a.f_law fd → ∀ (s : Shared) (v : Value), BindsTo s fd ⟨[v], []⟩ [("script", v)]
end DL

set_option Elab.async false
set_option linter.all false
set_option maxRecDepth 100000
set_option maxHeartbeats 4000000
set_option autoImplicit false
namespace DL
open PySem PySem.Spec PyProof.Rows L2
local macro_rules | `(tactic| walk_at "m") => `(tactic| first
  | with_reducible exact MAt.last | with_reducible exact MUp.last
  | exact MAt.zero | exact MUp.zero | exact MAt.last | exact MUp.last
  | (apply MAt.cons; walk_at "m") | (apply MUp.cons; walk_at "m")
  | (apply MAt.app; walk_at "m") | (apply MUp.app; walk_at "m")
  | assumption)
local macro_rules | `(tactic| walk_at "s1") => `(tactic| with_reducible first
  | refine sw_seq ?_ | refine sw_next ?_ | refine sw_ret ?_ | refine sw_retN ?_ | refine sw_asg ?_ | refine sw_asgG ?_ | refine sw_drop ?_ | refine sw_break ?_ | refine sw_cont ?_ | refine sw_par ?_ | refine sw_par3 ?_
  | refine tw_test ?_ | refine tw_B ?_ | refine tw_and ?_ | refine tw_or ?_ | refine tw_not ?_ | refine tw_yes ?_
  | refine ew_op ?_ | refine ew_un ?_ | refine ew_int ?_ | refine ew_non ?_ | refine ew_bl ?_ | refine ew_str ?_ | refine ew_ty ?_ | refine ew_ref ?_ | refine ew_cb ?_ | refine ew_if ?_ | refine ew_andV ?_ | refine ew_orV ?_ | refine ew_notV ?_ | refine ew_chain ?_ | refine ew_sl ?_ | refine pw_no ?_ | refine pw_part ?_
  | refine ew_call0 ?_ | refine ew_kw0 ?_
  | refine aw_nil ?_ | refine aw_cons ?_ | refine ew_bm ?_ | refine ew_bm0 ?_ | refine gs_L ?_
  | refine gs_nil ?_ | refine gs_cons ?_ | refine gw_name ?_
  | refine ow_addI ?_ | refine ow_odd ?_ | refine ow_i0 ?_ | refine ow_b0 ?_ | refine oq_eqI ?_ | refine oq_neI ?_ | refine oq_eqS ?_ | refine oq_neS ?_ | refine ow_isN ?_ | refine ow_notN ?_ | refine uw_neg ?_ | refine cw_int ?_ | refine cw_intB ?_ | refine cw_abs ?_ | refine cw_mx2 ?_ | refine cw_mn2 ?_ | refine cw_lenL ?_ | refine cw_lenR ?_ | refine cw_listL ?_ | refine cw_listT ?_ | refine lw_L ?_ | refine ew_revL ?_)
local macro_rules | `(tactic| walk_at "s2") => `(tactic| first
  | ((with_reducible refine' ew_var ?hv ?_); (case hv => exact rfl))
  | ((with_reducible refine' oi_M ?hm ?hi ?_); (case hm => walk_at "m"); (case hi => exact rfl))
  | ((with_reducible refine' ow_ixT ?hi ?_); (case hi => exact rfl))
  | ((with_reducible refine' cl_M ?hm ?_); (case hm => walk_at "m"))
  | ((with_reducible refine' ci_M ?hm ?_); (case hm => walk_at "m"))
  | ((with_reducible refine' ma_app ?hm ?ll ?_); (case hm => walk_at "m"); (case ll => walk_at "l"))
  | ((with_reducible refine' And.intro (ty_A ?hm) ?_); (case hm => walk_at "m"))
  | (with_reducible refine' Exists.intro _ (And.intro ?he ?_); (case he => exact rfl))
  | (with_reducible refine' Exists.intro _ (Exists.intro _ (And.intro ?he ?_)); (case he => exact rfl))
  | (with_reducible refine' Exists.intro _ (Exists.intro _ (Exists.intro _ (And.intro ?he ?_))); (case he => exact rfl))
  | ((with_reducible refine' Exists.intro _ (Exists.intro _ (Exists.intro _ (Exists.intro _ (Exists.intro _ (And.intro ?e1 (And.intro ?e2 (And.intro ?hm (And.intro ?hi ?_))))))))); (case e1 => exact rfl); (case e2 => exact rfl); (case hm => walk_at "m"); (case hi => exact rfl)))
local macro_rules | `(tactic| walk_at "l") => `(tactic| first | assumption | exact lt_sz (by omega) | exact lt_sz (by simp only [List.length_map, List.length_append, List.length_cons, List.length_nil, List.length_take, List.length_drop, List.length_range]; omega))
local macro_rules | `(tactic| walk_at "s") => `(tactic| repeat (first | walk_at "s1" | walk_at "s2"))
local macro_rules | `(tactic| walk_at "sx") => `(tactic| with_reducible first
  | refine swx_of ?_ | refine swx_seq ?_ | refine swx_drop ?_ | refine swx_asg ?_ | refine swx_ret ?_ | refine ewx_fun ?_ | refine ewx_meth ?_ | refine ewx_make ?_ | refine ewx_sub ?_)
local macro_rules | `(tactic| walk_at "s") => `(tactic| repeat (first | walk_at "s1" | walk_at "s2" | walk_at "sx"))
local macro_rules | `(tactic| walk_at "g1") => `(tactic| with_reducible first
  | refine ew_tup2 ?_ | refine ew_tup3 ?_ | refine ew_tup4 ?_ | refine ew_fldI ?_ | refine sw_fldA ?_ | refine ew_dget1 ?_ | refine ew_dget2 ?_ | refine ow_isN ?_)
local macro_rules | `(tactic| walk_at "g2") => `(tactic| first
  | ((with_reducible refine' gw_tup ?e ?_); (case e => exact rfl))
  | ((with_reducible refine' oi_L ?e ?_); (case e => exact rfl))
  | ((refine' Exists.intro _ (And.intro ?cl (And.intro ?na (And.intro ?e ?_)))); (case cl => assumption); (case na => assumption); (case e => exact rfl))
  | ((refine' Exists.intro _ (Exists.intro _ (Exists.intro _ (Exists.intro _ (And.intro ?e (And.intro ?hm (And.intro ?cl (And.intro ?na (And.intro ?l ?_))))))))); (case e => exact rfl); (case hm => walk_at "m"); (case cl => assumption); (case na => assumption); (case l => exact Nat.le_of_ble_eq_true rfl)))
local macro_rules | `(tactic| walk_at "g") => `(tactic| repeat (first | walk_at "s1" | walk_at "s2" | walk_at "sx" | walk_at "g1" | walk_at "g2"))

section
variable {P : Program} {w : World} {K : PySem.W.Frag} {mg : Str → Option Value} {base : Heap} {a : Ads}
theorem bits_lt {i : Int} {b : Nat} (h0 : 0 ≤ i) (h : i < 2 ^ b) : Builtin.Int.intBits i ≤ b := by
  have e : ((2 ^ b : Nat) : Int) = (2 : Int) ^ b := by first | exact Int.natCast_pow 2 b | simp
  rw [← e] at h
  exact intBits_le_iff.mpr (by omega)
theorem pow3_ok {i : Int} (b : Nat) (hb : 3 * b ≤ 2 ^ 27) (h0 : 0 ≤ i) (h : i < 2 ^ b) : CPowW i 3 := ⟨by decide, by have := bits_lt h0 h; omega⟩
def Kit (n : Nat) (c : Cell) : Prop := ∃ a b e : Int, c = .lst [.int a, .int b, .int e] ∧ 0 ≤ a ∧ 0 ≤ b ∧ b < 2 ^ 63 ∧ 0 ≤ e ∧ e ≤ n
theorem Kit.up {n n' : Nat} {c : Cell} (h : Kit n c) (l : n ≤ n') : Kit n' c := let ⟨a, b, e, h1, h2, h3, h4, h5, h6⟩ := h; ⟨a, b, e, h1, h2, h3, h4, h5, by omega⟩
def F_toss : FS := fun ds m Q => ∃ (p : Addr) (c : Cell) (rest : Mem) (n : Nat) (span : Int), ds = [.adr p, .int span] ∧ m = (p, c) :: rest ∧ Kit n c ∧ n < 2 ^ 40 ∧ 0 < span ∧ span < 2 ^ 200 ∧
  ∀ (r : Int) (c' : Cell), 0 ≤ r → r < span → Kit (n + 1) c' → Q (.int r) ((p, c') :: rest)
theorem ok__law_toss (T : Txt K mg a) : Def P w K mg base 2 a.f__law_toss ["kit", "many"] (FSn 2 (F_toss)) := by
  have nd := sc__law_toss.nd
  refine defOk T.h__law_toss sc__law_toss (fun _ _ _ h => h.1) (fun cdv A outer s H E hr => by exact (pss_cons (ps_if (pt_cmpR op_gt (pe_ix (kx_ix K rfl hr.units) (pv 0) pe_int (fun _ _ => rfl)) pe_int (nomark _)) (pss_cons (ps_set (i := 2) nd rfl (Or.inl rfl) (pe_op op_mod (pe_callTy cr_int1 (by rfl) T.n_int (by decide +kernel) (pa_cons (pe_ix (kx_ix K rfl hr.units) (pv 0) pe_int (fun _ _ => rfl)) pa_nil)) (pv 1)))
    (pss_cons (ps_asg (pe_op op_fdivW (pe_ix (kx_ix K rfl hr.units) (pv 0) pe_int (fun _ _ => rfl)) (pv 1)) (pg_sub (pv 0) pe_int set_list))
    (pss_one (ps_ret (pv 2))))) pss_nil)
    (pss_cons (ps_asg (pe_op op_addU (pe_ix (kx_ix K rfl hr.units) (pv 0) pe_int (fun _ _ => rfl)) pe_int) (pg_sub (pv 0) pe_int set_list))
    (pss_cons (ps_set (i := 3) nd rfl (Or.inl rfl) (pe_op op_addU (pe_op op_powW (pe_op op_addU (pe_ix (kx_ix K rfl hr.units) (pv 0) pe_int (fun _ _ => rfl)) (pe_op op_mulU pe_int (pe_ix (kx_ix K rfl hr.units) (pv 0) pe_int (fun _ _ => rfl)))) pe_int) (pe_op op_mulU pe_int (pe_ix (kx_ix K rfl hr.units) (pv 0) pe_int (fun _ _ => rfl)))))
    (pss_cons (ps_set (i := 3) nd rfl (Or.inl rfl) (pe_op op_addU (pe_op op_mod (pe_callTy cr_int1 (by rfl) T.n_int (by decide +kernel) (pa_cons (pv 3) pa_nil)) pe_int) (pe_op op_mulU pe_int (pe_ix (kx_ix K rfl hr.units) (pv 0) pe_int (fun _ _ => rfl)))))
    (pss_cons (ps_set (i := 3) nd rfl (Or.inl rfl) (pe_op op_mod (pe_callTy cr_int1 (by rfl) T.n_int (by decide +kernel) (pa_cons (pe_op op_powW (pv 3) pe_int) pa_nil)) pe_int))
    (pss_one (ps_ret (pe_op op_mod (pe_callTy cr_int1 (by rfl) T.n_int (by decide +kernel) (pa_cons (pe_op op_fdivW (pv 3) pe_int) pa_nil)) (pv 1)))))))))) (fun ds m Q h => ?_)
  replace h := h.2
  clear nd
  obtain ⟨p, c, rest, n, span, rfl, rfl, ⟨a, b, e, rfl, a0, b0, b1, e0, e1⟩, hn, s0, s1, q⟩ := h
  have dr : ∀ x : Int, 0 ≤ x % span ∧ x % span < span := fun x => ⟨Int.emod_nonneg _ (by omega), Int.emod_lt_of_pos _ s0⟩
  have hd : CDivW a span := wide_div (b := 200) s0 (by omega) (by decide) (by decide)
  walk_at "s"
  refine sw_if ?_
  walk_at "s"
  refine iteD (fun hp => ?_) (fun hp => ?_)
  · walk_at "s"
    refine ow_ic s0 ?_
    walk_at "s"
    refine ow_ic hd ?_
    walk_at "s"
    exact q _ _ (dr _).1 (dr _).2 ⟨_, b, e, rfl, Int.ediv_nonneg a0 (by omega), b0, b1, e0, by omega⟩
  · walk_at "s"
    refine ow_mul2 (by omega) ?_
    walk_at "s"
    refine ow_ic (pow3_ok 110 (by decide) (by omega) (by omega)) ?_
    walk_at "s"
    refine ow_mul2 (by omega) ?_
    walk_at "s"
    refine ow_ic (by decide) ?_
    walk_at "s"
    refine ow_mul2 (by omega) ?_
    walk_at "s"
    generalize hX : ((b + 6700417 * (e + 1)) ^ (3 : Int).toNat + 97 * (e + 1)) = X
    have t0 : 0 ≤ X % 2305843009213693951 := Int.emod_nonneg _ (by decide)
    have t1 : X % 2305843009213693951 < 2305843009213693951 := Int.emod_lt_of_pos _ (by decide)
    refine ow_ic (pow3_ok 110 (by decide) (by omega) (by omega)) ?_
    walk_at "s"
    refine ow_ic (by decide) ?_
    walk_at "s"
    refine ow_ic (wide_div (b := 18) (by decide) (by decide) (by decide) (by decide)) ?_
    walk_at "s"
    refine ow_ic s0 ?_
    exact q _ _ (dr _).1 (dr _).2 ⟨a, b, e + 1, rfl, a0, b0, b1, by omega, by omega⟩
theorem use_toss {p : Addr} {c : Cell} {rest : Mem} {n : Nat} {span : Int} {Q : D → Mem → Prop} (hk : Kit n c) (hn : n < 2 ^ 40) (s0 : 0 < span) (s1 : span < 2 ^ 200) (q : ∀ (r : Nat) (c' : Cell), (r : Int) < span → Kit (n + 1) c' → Q (.int (r : Nat)) ((p, c') :: rest)) : FSn 2 F_toss [.adr p, .int span] ((p, c) :: rest) Q :=
  ⟨rfl, p, c, rest, n, span, rfl, rfl, hk, hn, s0, s1, fun r c' r0 r1 hk' => by
    have := q r.toNat c' (by omega) hk'
    rwa [show ((r.toNat : Nat) : Int) = r by omega] at this⟩
def F_kit : FS := fun ds m Q => ∃ (ns : List Int) (pl : Int), ds = [.scr ns, .int pl] ∧ 0 ≤ pl ∧ pl < 2 ^ 20 ∧ ∀ (p : Addr) (c : Cell), Kit 0 c → Q (.adr p) (m ++ [(p, c)])
theorem ok__law_kit (T : Txt K mg a) : Def P w K mg base 2 a.f__law_kit ["script", "place"] (FSn 2 (F_kit)) := by
  have nd := sc__law_kit.nd
  refine defOk T.h__law_kit sc__law_kit (fun _ _ _ h => h.1) (fun cdv A outer s H E hr => by exact (pss_cons (ps_set (i := 2) nd rfl (Or.inl rfl) pe_int)
    (pss_cons (ps_if (pt_cmpR op_lt (pv 1) (pe_callB (kx_len K rfl) (by rfl) T.n_len (by decide +kernel) (pa_cons (pv 0) pa_nil)) (nomark _)) (pss_one (ps_set (i := 2) nd rfl (Or.inl rfl) (pe_ix (kx_ix K rfl hr.units) (pv 0) (pv 1) (fun _ _ => rfl)))) pss_nil)
    (pss_cons (ps_set (i := 3) nd rfl (Or.inl rfl) (pe_op op_mod (pe_callTy cr_int1 (by rfl) T.n_int (by decide +kernel) (pa_cons (pe_op op_addU (pe_op op_mulU (pe_callB cr_abs (by rfl) T.n_abs (by decide +kernel) (pa_cons (pv 2) pa_nil)) pe_int) (pe_callTy cr_int1 (by rfl) T.n_int (by decide +kernel) (pa_cons (pe_cmpR op_lt (pv 2) pe_int (nomark _)) pa_nil))) pa_nil)) pe_int))
    (pss_one (ps_ret (pe_lst (pa_cons (pe_op op_mulU (pv 2) (pe_callTy cr_int1 (by rfl) T.n_int (by decide +kernel) (pa_cons (pe_cmpR op_ge (pv 2) (pe_op op_powW pe_int pe_int) (nomark _)) pa_nil))) (pa_cons (pe_op op_addU (pv 3) (pe_op op_mulU pe_int (pv 1))) (pa_cons pe_int pa_nil)))))))))) (fun ds m Q h => ?_)
  replace h := h.2
  clear nd
  obtain ⟨ns, pl, rfl, p0, p1, q⟩ := h
  walk_at "s"
  refine sw_ifJ (fun δ' m' => m' = m ∧ ∃ sd : Int, δ' = [some (.scr ns), some (.int pl), some (.int sd), none]) ?_ ?_
  · walk_at "s"
    refine iteD (fun hp => ?_) (fun hp => ?_)
    · walk_at "s"
      have hl : pl.toNat < ns.length := by omega
      refine ow_ixR (n := ns[pl.toNat]) (atI_lt p0 (List.getElem?_eq_getElem hl)) ?_
      walk_at "s"
      exact ⟨rfl, _, rfl⟩
    · walk_at "s"
      exact ⟨rfl, _, rfl⟩
  · rintro δ' m' ⟨rfl, sd, rfl⟩
    walk_at "s"
    refine ow_mul1 (by decide) ?_
    walk_at "s"
    refine ow_ic (by decide) ?_
    walk_at "s"
    generalize hX : ((if sd < 0 then -sd else sd) * 2 + if decide (sd < 0) = true then 1 else 0) = X
    have t0 : 0 ≤ X % 2305843009213693951 := Int.emod_nonneg _ (by decide)
    have t1 : X % 2305843009213693951 < 2305843009213693951 := Int.emod_lt_of_pos _ (by decide)
    refine ew_lstM ?_
    walk_at "s"
    refine ow_ic ⟨by decide, by decide⟩ ?_
    walk_at "s"
    refine ow_mul1 (by split <;> decide) ?_
    walk_at "s"
    refine ow_mul2 (by decide) ?_
    walk_at "s"
    refine ⟨Nat.le_of_ble_eq_true rfl, fun p => q p _ ⟨_, _, 0, rfl, ?_, by omega, by omega, Int.le_refl _, by decide⟩⟩
    by_cases h : (10 : Int) ^ (18 : Int).toNat ≤ sd
    · rw [decide_eq_true h, if_pos rfl, Int.mul_one]
      exact Int.le_trans (by decide) h
    · rw [decide_eq_false h, if_neg Bool.false_ne_true, Int.mul_zero]
      exact Int.le_refl _
theorem tk {p : Addr} {c : Cell} {rest : Mem} {n : Nat} {span : Int} {Q : D → Mem → Prop} (hk : Kit n c) (q : ∀ (r : Nat) (c' : Cell), (r : Int) < span → Kit (n + 1) c' → Q (.int (r : Nat)) ((p, c') :: rest))
    (hn : n < 2 ^ 40 := by omega) (s0 : 0 < span := by first | omega | decide) (s1 : span < 2 ^ 200 := by first | omega | decide) : FSn 2 F_toss [.adr p, .int span] ((p, c) :: rest) Q := use_toss hk hn s0 s1 q

end
end DL

set_option Elab.async false
set_option linter.all false
set_option maxRecDepth 100000
set_option maxHeartbeats 4000000
set_option autoImplicit false
namespace DL
open PySem PySem.Spec PyProof.Rows L2
local macro_rules | `(tactic| walk_at "m") => `(tactic| first
  | with_reducible exact MAt.last | with_reducible exact MUp.last
  | exact MAt.zero | exact MUp.zero | exact MAt.last | exact MUp.last
  | (apply MAt.cons; walk_at "m") | (apply MUp.cons; walk_at "m")
  | (apply MAt.app; walk_at "m") | (apply MUp.app; walk_at "m")
  | assumption)
local macro_rules | `(tactic| walk_at "s1") => `(tactic| with_reducible first
  | refine sw_seq ?_ | refine sw_next ?_ | refine sw_ret ?_ | refine sw_retN ?_ | refine sw_asg ?_ | refine sw_asgG ?_ | refine sw_drop ?_ | refine sw_break ?_ | refine sw_cont ?_ | refine sw_par ?_ | refine sw_par3 ?_
  | refine tw_test ?_ | refine tw_B ?_ | refine tw_and ?_ | refine tw_or ?_ | refine tw_not ?_ | refine tw_yes ?_
  | refine ew_op ?_ | refine ew_un ?_ | refine ew_int ?_ | refine ew_non ?_ | refine ew_bl ?_ | refine ew_str ?_ | refine ew_ty ?_ | refine ew_ref ?_ | refine ew_cb ?_ | refine ew_if ?_ | refine ew_andV ?_ | refine ew_orV ?_ | refine ew_notV ?_ | refine ew_chain ?_ | refine ew_sl ?_ | refine pw_no ?_ | refine pw_part ?_
  | refine ew_call0 ?_ | refine ew_kw0 ?_
  | refine aw_nil ?_ | refine aw_cons ?_ | refine ew_bm ?_ | refine ew_bm0 ?_ | refine gs_L ?_
  | refine gs_nil ?_ | refine gs_cons ?_ | refine gw_name ?_
  | refine ow_addI ?_ | refine ow_odd ?_ | refine ow_i0 ?_ | refine ow_b0 ?_ | refine oq_eqI ?_ | refine oq_neI ?_ | refine oq_eqS ?_ | refine oq_neS ?_ | refine ow_isN ?_ | refine ow_notN ?_ | refine uw_neg ?_ | refine cw_int ?_ | refine cw_intB ?_ | refine cw_abs ?_ | refine cw_mx2 ?_ | refine cw_mn2 ?_ | refine cw_lenL ?_ | refine cw_lenR ?_ | refine cw_listL ?_ | refine cw_listT ?_ | refine lw_L ?_ | refine ew_revL ?_)
local macro_rules | `(tactic| walk_at "s2") => `(tactic| first
  | ((with_reducible refine' ew_var ?hv ?_); (case hv => exact rfl))
  | ((with_reducible refine' oi_M ?hm ?hi ?_); (case hm => walk_at "m"); (case hi => exact rfl))
  | ((with_reducible refine' ow_ixT ?hi ?_); (case hi => exact rfl))
  | ((with_reducible refine' cl_M ?hm ?_); (case hm => walk_at "m"))
  | ((with_reducible refine' ci_M ?hm ?_); (case hm => walk_at "m"))
  | ((with_reducible refine' ma_app ?hm ?ll ?_); (case hm => walk_at "m"); (case ll => walk_at "l"))
  | ((with_reducible refine' And.intro (ty_A ?hm) ?_); (case hm => walk_at "m"))
  | (with_reducible refine' Exists.intro _ (And.intro ?he ?_); (case he => exact rfl))
  | (with_reducible refine' Exists.intro _ (Exists.intro _ (And.intro ?he ?_)); (case he => exact rfl))
  | (with_reducible refine' Exists.intro _ (Exists.intro _ (Exists.intro _ (And.intro ?he ?_))); (case he => exact rfl))
  | ((with_reducible refine' Exists.intro _ (Exists.intro _ (Exists.intro _ (Exists.intro _ (Exists.intro _ (And.intro ?e1 (And.intro ?e2 (And.intro ?hm (And.intro ?hi ?_))))))))); (case e1 => exact rfl); (case e2 => exact rfl); (case hm => walk_at "m"); (case hi => exact rfl)))
local macro_rules | `(tactic| walk_at "l") => `(tactic| first | assumption | exact lt_sz (by omega) | exact lt_sz (by simp only [List.length_map, List.length_append, List.length_cons, List.length_nil, List.length_take, List.length_drop, List.length_range]; omega))
local macro_rules | `(tactic| walk_at "s") => `(tactic| repeat (first | walk_at "s1" | walk_at "s2"))
local macro_rules | `(tactic| walk_at "sx") => `(tactic| with_reducible first
  | refine swx_of ?_ | refine swx_seq ?_ | refine swx_drop ?_ | refine swx_asg ?_ | refine swx_ret ?_ | refine ewx_fun ?_ | refine ewx_meth ?_ | refine ewx_make ?_ | refine ewx_sub ?_)
local macro_rules | `(tactic| walk_at "s") => `(tactic| repeat (first | walk_at "s1" | walk_at "s2" | walk_at "sx"))
local macro_rules | `(tactic| walk_at "g1") => `(tactic| with_reducible first
  | refine ew_tup2 ?_ | refine ew_tup3 ?_ | refine ew_tup4 ?_ | refine ew_fldI ?_ | refine sw_fldA ?_ | refine ew_dget1 ?_ | refine ew_dget2 ?_ | refine ow_isN ?_)
local macro_rules | `(tactic| walk_at "g2") => `(tactic| first
  | ((with_reducible refine' gw_tup ?e ?_); (case e => exact rfl))
  | ((with_reducible refine' oi_L ?e ?_); (case e => exact rfl))
  | ((refine' Exists.intro _ (And.intro ?cl (And.intro ?na (And.intro ?e ?_)))); (case cl => assumption); (case na => assumption); (case e => exact rfl))
  | ((refine' Exists.intro _ (Exists.intro _ (Exists.intro _ (Exists.intro _ (And.intro ?e (And.intro ?hm (And.intro ?cl (And.intro ?na (And.intro ?l ?_))))))))); (case e => exact rfl); (case hm => walk_at "m"); (case cl => assumption); (case na => assumption); (case l => exact Nat.le_of_ble_eq_true rfl)))
local macro_rules | `(tactic| walk_at "g") => `(tactic| repeat (first | walk_at "s1" | walk_at "s2" | walk_at "sx" | walk_at "g1" | walk_at "g2"))

section
variable {P : Program} {w : World} {K : PySem.W.Frag} {mg : Str → Option Value} {base : Heap} {a : Ads}
def LET : Str := "abcdefghijklmnopqrstuvwxyz"
def nameB (x : Str) : Bool := (decide (1 ≤ x.length) && decide (x.length ≤ 8)) && x.cps.toList.all fun c => decide (c ∈ LET.cps.toList)
def F_isname : FS := fun ds m Q => ∃ x : Str, ds = [.str x] ∧ x.length ≤ sizeLine ∧ Q (.bl (nameB x)) m
theorem ok_is_name (T : Txt K mg a) : Def P w K mg base 2 a.f_is_name ["word"] (FSn 1 (F_isname)) := by
  have nd := sc_is_name.nd
  refine defOk T.h_is_name sc_is_name (fun _ _ _ h => h.1) (fun cdv A outer s H E hr => by exact (pss_cons (ps_if (pt_not (pt_val (pe_callB (kx_isi K rfl) (by rfl) T.n_isinstance (by decide +kernel) (pa_cons (pv 0) (pa_cons (pe_bltn (v := .ty "str") (by rfl) T.n_str (by decide +kernel) rfl) pa_nil))))) (pss_one (ps_ret pe_bl)) pss_nil)
    (pss_one (ps_ret (pe_and (pe_chain op_le op_le pe_int (pe_callB (kx_len K rfl) (by rfl) T.n_len (by decide +kernel) (pa_cons (pv 0) pa_nil)) (kx_con T.g_MOST_LETTERS rfl)) (pe_one (pe_callB (kx_all K rfl rfl) (by rfl) T.n_all (by decide +kernel) (pa_cons (pe_lc (own := [("letter", 1)]) (g := (gName 1)) (tt := tYes) rfl nd (pi_str (pv 0)) (blkOk_by (own := [("letter", 1)]) (N := N_is_name) (sc := defScope s_is_name) (by decide +kernel)) (fun _ _ _ _ _ => (pg_name (i := 1) nd rfl (by first | exact Or.inl rfl | exact Or.inr rfl))) (fun _ _ _ _ _ => pts_nil) (fun _ _ _ _ _ => (pe_cmpR (kx_in K rfl P w rfl rfl hr.units) (pv 1) (kx_con T.g_LETTERS rfl) (by with_unfolding_all rfl)))) pa_nil)))))))) (fun ds m Q h => ?_)
  replace h := h.2
  clear nd
  obtain ⟨x, rfl, hx, q⟩ := h
  walk_at "s"
  refine sw_if ?_
  walk_at "s"
  refine cw_isi (n := "str") (b := true) rfl rfl (fun _ h => nomatch h) ?_
  walk_at "s"
  rw [if_neg (by decide)]
  walk_at "s"
  have no : ∀ {b c : Bool}, nameB x = (b && c) → b = false → Q (.bl false) m := fun {b c} e hb => by
    rw [e, hb] at q
    exact q
  refine cw_lenS hx ?_
  walk_at "s"
  refine iteD (fun h1 => ?_) (fun h1 => ?_)
  · walk_at "s"
    refine iteD (fun h2 => ?_) (fun h2 => ?_)
    · walk_at "s"
      refine ew_lcF (tame_name (by decide)) (iw_str ?_)
      walk_at "s"
      refine ⟨Nat, x.cps.toList, fun c => .str ⟨#[c]⟩, fun c => .bl (decide (c ∈ LET.cps.toList)), rfl, ?_, ?_, ?_⟩
      · exact le_sz (by have e : x.length = x.cps.toList.length := by simp [Str.length]
                        omega)
      · intro c acc z hc
        walk_at "s"
        refine ⟨rfl, ?_⟩
        walk_at "s"
        refine in_sg ?_
        exact ⟨rfl, rfl⟩
      · walk_at "s"
        have e : (x.cps.toList.map fun c => D.bl (decide (c ∈ LET.cps.toList))) = (x.cps.toList.map fun c => decide (c ∈ LET.cps.toList)).map D.bl := by rw [List.map_map]; rfl
        rw [e]
        refine cw_all ?_
        have e2 : ((x.cps.toList.map fun c => decide (c ∈ LET.cps.toList)).all id) = nameB x := by
          unfold nameB
          rw [List.all_map, decide_eq_true (by omega : 1 ≤ x.length), decide_eq_true (by omega : x.length ≤ 8)]
          rfl
        rw [e2]
        exact q
    · refine no (b := decide (1 ≤ x.length) && decide (x.length ≤ 8)) rfl ?_
      rw [decide_eq_false (by omega : ¬ x.length ≤ 8), Bool.and_false]
  · walk_at "s"
    refine no (b := decide (1 ≤ x.length) && decide (x.length ≤ 8)) rfl ?_
    rw [decide_eq_false (by omega : ¬ 1 ≤ x.length), Bool.false_and]
theorem nameB_len {x : Str} (h : nameB x = true) : x.length ≤ 8 := by
  unfold nameB at h
  rw [Bool.and_eq_true, Bool.and_eq_true] at h
  exact of_decide_eq_true h.1.2
theorem use_isname {x : Str} {m : Mem} {Q : D → Mem → Prop} (h : x.length ≤ sizeLine) (q : Q (.bl (nameB x)) m) : FSn 1 F_isname [.str x] m Q := ⟨rfl, x, rfl, h, q⟩
def F_cname (iN : Addr) : FX := fun ds m Q R => ∃ x : Str, ds = [.str x] ∧ x.length ≤ sizeLine ∧ (nameB x = false → R iN (.str x) m) ∧ (nameB x = true → Q .non m)
theorem ok_CutError___init__ (T : Txt K mg a) : InitX P w K mg base 2 a.f_CutError___init__ := initX T.h_CutError___init__ sc_CutError___init__ (fun cdv A outer s H E => by exact pss_one (ps_ost (pv 0) (pv 1)))
theorem okx_check_name (T : Txt K mg a) : DefX P w K mg base 4 a.f_check_name ["word"] (FXn 1 (F_cname a.c_InvalidName)) := by
  have nd := sc_check_name.nd
  have C_is_name := ok_is_name (P := P) (w := w) (base := base) T
  have C_CutError___init__ := ok_CutError___init__ (P := P) (w := w) (base := base) T
  refine defOkX T.h_check_name sc_check_name (fun _ _ _ _ h => h.1) (fun W cdv A outer s H E hr tkW own => ⟨_, (pss_one (ps_if (pt_not (pt_val (kx_def K rfl C_is_name (hr.mono (by decide)) rfl T.g_is_name T.k_is_name (pa_cons (pv 0) pa_nil)))) (pss_one (kx_raise K rfl rfl tkW T.er_InvalidName C_CutError___init__ (hr.mono (by decide)) rfl T.g_InvalidName (pa_cons (pv 0) pa_nil))) pss_nil)), rfl⟩) (fun ds m Q R h => ?_)
  replace h := h.2
  clear nd
  have er := T.er_InvalidName
  obtain ⟨x, rfl, hx, r, q⟩ := h
  refine swx_if ?_
  walk_at "g"
  refine use_isname hx ?_
  walk_at "g"
  refine iteB (fun h => ?_) (fun h => ?_)
  · have h : nameB x = false := by simpa using h
    refine swx_raise er ?_
    walk_at "g"
    exact r h
  · have h : nameB x = true := by simpa using h
    walk_at "g"
    exact q h
end
end DL

set_option Elab.async false
set_option linter.all false
set_option maxRecDepth 100000
set_option maxHeartbeats 4000000
set_option autoImplicit false
namespace DL
open PySem PySem.Spec PyProof.Rows L2
local macro_rules | `(tactic| walk_at "m") => `(tactic| first
  | with_reducible exact MAt.last | with_reducible exact MUp.last
  | exact MAt.zero | exact MUp.zero | exact MAt.last | exact MUp.last
  | (apply MAt.cons; walk_at "m") | (apply MUp.cons; walk_at "m")
  | (apply MAt.app; walk_at "m") | (apply MUp.app; walk_at "m")
  | assumption)
local macro_rules | `(tactic| walk_at "s1") => `(tactic| with_reducible first
  | refine sw_seq ?_ | refine sw_next ?_ | refine sw_ret ?_ | refine sw_retN ?_ | refine sw_asg ?_ | refine sw_asgG ?_ | refine sw_drop ?_ | refine sw_break ?_ | refine sw_cont ?_ | refine sw_par ?_ | refine sw_par3 ?_
  | refine tw_test ?_ | refine tw_B ?_ | refine tw_and ?_ | refine tw_or ?_ | refine tw_not ?_ | refine tw_yes ?_
  | refine ew_op ?_ | refine ew_un ?_ | refine ew_int ?_ | refine ew_non ?_ | refine ew_bl ?_ | refine ew_str ?_ | refine ew_ty ?_ | refine ew_ref ?_ | refine ew_cb ?_ | refine ew_if ?_ | refine ew_andV ?_ | refine ew_orV ?_ | refine ew_notV ?_ | refine ew_chain ?_ | refine ew_sl ?_ | refine pw_no ?_ | refine pw_part ?_
  | refine ew_call0 ?_ | refine ew_kw0 ?_
  | refine aw_nil ?_ | refine aw_cons ?_ | refine ew_bm ?_ | refine ew_bm0 ?_ | refine gs_L ?_
  | refine gs_nil ?_ | refine gs_cons ?_ | refine gw_name ?_
  | refine ow_addI ?_ | refine ow_odd ?_ | refine ow_i0 ?_ | refine ow_b0 ?_ | refine oq_eqI ?_ | refine oq_neI ?_ | refine oq_eqS ?_ | refine oq_neS ?_ | refine ow_isN ?_ | refine ow_notN ?_ | refine uw_neg ?_ | refine cw_int ?_ | refine cw_intB ?_ | refine cw_abs ?_ | refine cw_mx2 ?_ | refine cw_mn2 ?_ | refine cw_lenL ?_ | refine cw_lenR ?_ | refine cw_listL ?_ | refine cw_listT ?_ | refine lw_L ?_ | refine ew_revL ?_)
local macro_rules | `(tactic| walk_at "s2") => `(tactic| first
  | ((with_reducible refine' ew_var ?hv ?_); (case hv => exact rfl))
  | ((with_reducible refine' oi_M ?hm ?hi ?_); (case hm => walk_at "m"); (case hi => exact rfl))
  | ((with_reducible refine' ow_ixT ?hi ?_); (case hi => exact rfl))
  | ((with_reducible refine' cl_M ?hm ?_); (case hm => walk_at "m"))
  | ((with_reducible refine' ci_M ?hm ?_); (case hm => walk_at "m"))
  | ((with_reducible refine' ma_app ?hm ?ll ?_); (case hm => walk_at "m"); (case ll => walk_at "l"))
  | ((with_reducible refine' And.intro (ty_A ?hm) ?_); (case hm => walk_at "m"))
  | (with_reducible refine' Exists.intro _ (And.intro ?he ?_); (case he => exact rfl))
  | (with_reducible refine' Exists.intro _ (Exists.intro _ (And.intro ?he ?_)); (case he => exact rfl))
  | (with_reducible refine' Exists.intro _ (Exists.intro _ (Exists.intro _ (And.intro ?he ?_))); (case he => exact rfl))
  | ((with_reducible refine' Exists.intro _ (Exists.intro _ (Exists.intro _ (Exists.intro _ (Exists.intro _ (And.intro ?e1 (And.intro ?e2 (And.intro ?hm (And.intro ?hi ?_))))))))); (case e1 => exact rfl); (case e2 => exact rfl); (case hm => walk_at "m"); (case hi => exact rfl)))
local macro_rules | `(tactic| walk_at "l") => `(tactic| first | assumption | exact lt_sz (by omega) | exact lt_sz (by simp only [List.length_map, List.length_append, List.length_cons, List.length_nil, List.length_take, List.length_drop, List.length_range]; omega))
local macro_rules | `(tactic| walk_at "s") => `(tactic| repeat (first | walk_at "s1" | walk_at "s2"))
local macro_rules | `(tactic| walk_at "sx") => `(tactic| with_reducible first
  | refine swx_of ?_ | refine swx_seq ?_ | refine swx_drop ?_ | refine swx_asg ?_ | refine swx_ret ?_ | refine ewx_fun ?_ | refine ewx_meth ?_ | refine ewx_make ?_ | refine ewx_sub ?_)
local macro_rules | `(tactic| walk_at "s") => `(tactic| repeat (first | walk_at "s1" | walk_at "s2" | walk_at "sx"))
local macro_rules | `(tactic| walk_at "g1") => `(tactic| with_reducible first
  | refine ew_tup2 ?_ | refine ew_tup3 ?_ | refine ew_tup4 ?_ | refine ew_fldI ?_ | refine sw_fldA ?_ | refine ew_dget1 ?_ | refine ew_dget2 ?_ | refine ow_isN ?_)
local macro_rules | `(tactic| walk_at "g2") => `(tactic| first
  | ((with_reducible refine' gw_tup ?e ?_); (case e => exact rfl))
  | ((with_reducible refine' oi_L ?e ?_); (case e => exact rfl))
  | ((refine' Exists.intro _ (And.intro ?cl (And.intro ?na (And.intro ?e ?_)))); (case cl => assumption); (case na => assumption); (case e => exact rfl))
  | ((refine' Exists.intro _ (Exists.intro _ (Exists.intro _ (Exists.intro _ (And.intro ?e (And.intro ?hm (And.intro ?cl (And.intro ?na (And.intro ?l ?_))))))))); (case e => exact rfl); (case hm => walk_at "m"); (case cl => assumption); (case na => assumption); (case l => exact Nat.le_of_ble_eq_true rfl)))
local macro_rules | `(tactic| walk_at "g") => `(tactic| repeat (first | walk_at "s1" | walk_at "s2" | walk_at "sx" | walk_at "g1" | walk_at "g2"))

section
variable {P : Program} {w : World} {K : PySem.W.Frag} {mg : Str → Option Value} {base : Heap} {a : Ads}
/-- unlike names -/
structure Tags (k : Nat) (ws : List Str) : Prop where
  len : ws.length = k
  nd : ws.Nodup
  nm : ∀ x ∈ ws, nameB x = true
theorem LET_ok : ∀ c ∈ LET.cps.toList, c < 1114112 := by decide +kernel
theorem name_ok {x : Str} (h : nameB x = true) : PyData.strOk x = true := by
  unfold nameB at h
  rw [Bool.and_eq_true, List.all_eq_true] at h
  unfold PyData.strOk
  rw [Array.all_eq_true']
  intro c hc
  have := h.2 c (by simpa using hc)
  exact decide_eq_true (LET_ok c (of_decide_eq_true this))
theorem name_of {x : Str} {cs : List Nat} (e : x.cps.toList = cs) (h1 : 1 ≤ cs.length) (h8 : cs.length ≤ 8) (hc : ∀ c ∈ cs, c ∈ LET.cps.toList) : nameB x = true := by
  have l : x.length = cs.length := by rw [← e]; simp [Str.length]
  unfold nameB
  rw [l, decide_eq_true h1, decide_eq_true h8, e, Bool.and_self, Bool.true_and, List.all_eq_true]
  exact fun c h => decide_eq_true (hc c h)
theorem nd_mapOn {α β : Type} {f : α → β} {l : List α} (inj : ∀ a ∈ l, ∀ b ∈ l, f a = f b → a = b) (h : l.Nodup) : (l.map f).Nodup := by
  refine List.pairwise_map.mpr ?_
  refine List.Pairwise.imp_of_mem (fun ha hb ne e => ne (inj _ ha _ hb e)) h
theorem mulOk1 (c : Nat) {n : Int} (h1 : 1 ≤ n) (h8 : n ≤ 8) : PySem.MulOk ⟨#[c]⟩ n := by
  rcases (by omega : n = 1 ∨ n = 2 ∨ n = 3 ∨ n = 4 ∨ n = 5 ∨ n = 6 ∨ n = 7 ∨ n = 8) with rfl | rfl | rfl | rfl | rfl | rfl | rfl | rfl <;>
  exact ⟨rfl, fun _ _ => by show ¬ ((1 : Int) > _); decide, fun _ _ => rfl⟩

end
end DL

set_option Elab.async false
set_option linter.all false
set_option maxRecDepth 100000
set_option maxHeartbeats 4000000
set_option autoImplicit false
namespace DL
open PySem PySem.Spec PyProof.Rows L2
local macro_rules | `(tactic| walk_at "m") => `(tactic| first
  | with_reducible exact MAt.last | with_reducible exact MUp.last
  | exact MAt.zero | exact MUp.zero | exact MAt.last | exact MUp.last
  | (apply MAt.cons; walk_at "m") | (apply MUp.cons; walk_at "m")
  | (apply MAt.app; walk_at "m") | (apply MUp.app; walk_at "m")
  | assumption)
local macro_rules | `(tactic| walk_at "s1") => `(tactic| with_reducible first
  | refine sw_seq ?_ | refine sw_next ?_ | refine sw_ret ?_ | refine sw_retN ?_ | refine sw_asg ?_ | refine sw_asgG ?_ | refine sw_drop ?_ | refine sw_break ?_ | refine sw_cont ?_ | refine sw_par ?_ | refine sw_par3 ?_
  | refine tw_test ?_ | refine tw_B ?_ | refine tw_and ?_ | refine tw_or ?_ | refine tw_not ?_ | refine tw_yes ?_
  | refine ew_op ?_ | refine ew_un ?_ | refine ew_int ?_ | refine ew_non ?_ | refine ew_bl ?_ | refine ew_str ?_ | refine ew_ty ?_ | refine ew_ref ?_ | refine ew_cb ?_ | refine ew_if ?_ | refine ew_andV ?_ | refine ew_orV ?_ | refine ew_notV ?_ | refine ew_chain ?_ | refine ew_sl ?_ | refine pw_no ?_ | refine pw_part ?_
  | refine ew_call0 ?_ | refine ew_kw0 ?_
  | refine aw_nil ?_ | refine aw_cons ?_ | refine ew_bm ?_ | refine ew_bm0 ?_ | refine gs_L ?_
  | refine gs_nil ?_ | refine gs_cons ?_ | refine gw_name ?_
  | refine ow_addI ?_ | refine ow_odd ?_ | refine ow_i0 ?_ | refine ow_b0 ?_ | refine oq_eqI ?_ | refine oq_neI ?_ | refine oq_eqS ?_ | refine oq_neS ?_ | refine ow_isN ?_ | refine ow_notN ?_ | refine uw_neg ?_ | refine cw_int ?_ | refine cw_intB ?_ | refine cw_abs ?_ | refine cw_mx2 ?_ | refine cw_mn2 ?_ | refine cw_lenL ?_ | refine cw_lenR ?_ | refine cw_listL ?_ | refine cw_listT ?_ | refine lw_L ?_ | refine ew_revL ?_)
local macro_rules | `(tactic| walk_at "s2") => `(tactic| first
  | ((with_reducible refine' ew_var ?hv ?_); (case hv => exact rfl))
  | ((with_reducible refine' oi_M ?hm ?hi ?_); (case hm => walk_at "m"); (case hi => exact rfl))
  | ((with_reducible refine' ow_ixT ?hi ?_); (case hi => exact rfl))
  | ((with_reducible refine' cl_M ?hm ?_); (case hm => walk_at "m"))
  | ((with_reducible refine' ci_M ?hm ?_); (case hm => walk_at "m"))
  | ((with_reducible refine' ma_app ?hm ?ll ?_); (case hm => walk_at "m"); (case ll => walk_at "l"))
  | ((with_reducible refine' And.intro (ty_A ?hm) ?_); (case hm => walk_at "m"))
  | (with_reducible refine' Exists.intro _ (And.intro ?he ?_); (case he => exact rfl))
  | (with_reducible refine' Exists.intro _ (Exists.intro _ (And.intro ?he ?_)); (case he => exact rfl))
  | (with_reducible refine' Exists.intro _ (Exists.intro _ (Exists.intro _ (And.intro ?he ?_))); (case he => exact rfl))
  | ((with_reducible refine' Exists.intro _ (Exists.intro _ (Exists.intro _ (Exists.intro _ (Exists.intro _ (And.intro ?e1 (And.intro ?e2 (And.intro ?hm (And.intro ?hi ?_))))))))); (case e1 => exact rfl); (case e2 => exact rfl); (case hm => walk_at "m"); (case hi => exact rfl)))
local macro_rules | `(tactic| walk_at "l") => `(tactic| first | assumption | exact lt_sz (by omega) | exact lt_sz (by simp only [List.length_map, List.length_append, List.length_cons, List.length_nil, List.length_take, List.length_drop, List.length_range]; omega))
local macro_rules | `(tactic| walk_at "s") => `(tactic| repeat (first | walk_at "s1" | walk_at "s2"))
local macro_rules | `(tactic| walk_at "sx") => `(tactic| with_reducible first
  | refine swx_of ?_ | refine swx_seq ?_ | refine swx_drop ?_ | refine swx_asg ?_ | refine swx_ret ?_ | refine ewx_fun ?_ | refine ewx_meth ?_ | refine ewx_make ?_ | refine ewx_sub ?_)
local macro_rules | `(tactic| walk_at "s") => `(tactic| repeat (first | walk_at "s1" | walk_at "s2" | walk_at "sx"))
local macro_rules | `(tactic| walk_at "g1") => `(tactic| with_reducible first
  | refine ew_tup2 ?_ | refine ew_tup3 ?_ | refine ew_tup4 ?_ | refine ew_fldI ?_ | refine sw_fldA ?_ | refine ew_dget1 ?_ | refine ew_dget2 ?_ | refine ow_isN ?_)
local macro_rules | `(tactic| walk_at "g2") => `(tactic| first
  | ((with_reducible refine' gw_tup ?e ?_); (case e => exact rfl))
  | ((with_reducible refine' oi_L ?e ?_); (case e => exact rfl))
  | ((refine' Exists.intro _ (And.intro ?cl (And.intro ?na (And.intro ?e ?_)))); (case cl => assumption); (case na => assumption); (case e => exact rfl))
  | ((refine' Exists.intro _ (Exists.intro _ (Exists.intro _ (Exists.intro _ (And.intro ?e (And.intro ?hm (And.intro ?cl (And.intro ?na (And.intro ?l ?_))))))))); (case e => exact rfl); (case hm => walk_at "m"); (case cl => assumption); (case na => assumption); (case l => exact Nat.le_of_ble_eq_true rfl)))
local macro_rules | `(tactic| walk_at "g") => `(tactic| repeat (first | walk_at "s1" | walk_at "s2" | walk_at "sx" | walk_at "g1" | walk_at "g2"))

section
variable {P : Program} {w : World} {K : PySem.W.Frag} {mg : Str → Option Value} {base : Heap} {a : Ads}
theorem LET_at (i : Nat) (h : i < 26) : ∃ c, L2.atI LET.cps.toList ((i : Nat) : Int) = some c ∧ LET.cps.toList[i]? = some c ∧ c ∈ LET.cps.toList := by
  have hl : LET.cps.toList.length = 26 := by decide +kernel
  have hi : i < LET.cps.toList.length := by omega
  have e : LET.cps.toList[i]? = some LET.cps.toList[i] := List.getElem?_eq_getElem hi
  exact ⟨_, atI_lt (Int.natCast_nonneg i) (by rw [Int.toNat_natCast]; exact e), e, List.getElem_mem hi⟩
abbrev chS (c : Nat) : Str := ⟨#[c]⟩
theorem app_cps (a b : Str) : (a ++ b).cps.toList = a.cps.toList ++ b.cps.toList := by
  show (a.cps ++ b.cps).toList = _
  simp
theorem join_chs : ∀ cs : List Nat, (Str.join "" (cs.map chS)).cps.toList = cs
  | [] => rfl
  | [c] => rfl
  | c :: d :: cs => by
    have ih := join_chs (d :: cs)
    show ((chS c ++ "") ++ Str.join "" ((d :: cs).map chS)).cps.toList = _
    rw [app_cps, app_cps, ih]
    rfl
theorem join_chs2 (cs : List Nat) : (Txt.join "" (cs.map chS)).cps.toList = cs := by
  have := join_closes (sep := "") (sep' := "") (ys := cs.map chS) rfl
  rw [beq_iff_eq.mp this]
  exact join_chs cs
theorem chs_sum (cs : List Nat) : ((cs.map chS).map (·.length)).sum = cs.length := by
  induction cs with
  | nil => rfl
  | cons c cs ih =>
    rw [List.map_cons, List.map_cons, List.sum_cons, ih, List.length_cons]
    have : (chS c).length = 1 := rfl
    omega
theorem cutS_to {z : Str} {i : Nat} : (cutS z none (some ((i : Nat) : Int))).cps.toList = z.cps.toList.take i := by
  unfold cutS
  rw [HT.sIx_none, HT.sIx_nat]
  have hl : z.length = z.cps.toList.length := by simp [Str.length]
  simp only [Nat.sub_zero, List.drop_zero]
  rw [List.take_eq_take_iff]
  omega
theorem cutS_from {z : Str} {i : Nat} : (cutS z (some ((i : Nat) : Int)) none).cps.toList = z.cps.toList.drop i := by
  unfold cutS
  rw [HT.sIx_none, HT.sIx_nat]
  have hl : z.length = z.cps.toList.length := by simp [Str.length]
  show (z.cps.toList.drop (min i z.length)).take (z.length - min i z.length) = _
  rw [List.take_of_length_le (by rw [List.length_drop]; omega)]
  by_cases l : i ≤ z.length
  · rw [Nat.min_eq_left l]
  · rw [Nat.min_eq_right (by omega), List.drop_of_length_le (by omega), List.drop_of_length_le (by omega)]
theorem LET_nd : LET.cps.toList.Nodup := by decide +kernel
def T12 : List Str := ["early", "keyed", "ranks", "plain", "look", "off", "on", "add", "state", "cut", "done", "run"]
theorem T12_nd : T12.Nodup := by decide +kernel
theorem T12_nm : ∀ x ∈ T12, nameB x = true := by decide +kernel
def F_tags : FS := fun ds m Q => ∃ (p : Addr) (c : Cell) (rest : Mem) (n k : Nat), ds = [.adr p, .int (k : Nat)] ∧ m = (p, c) :: rest ∧ Kit n c ∧ n + 20 < 2 ^ 40 ∧ k ≤ 12 ∧
  ∀ (ws : List Str) (c' : Cell), Tags k ws → Kit (n + 20) c' → Q (.lst (ws.map .str)) ((p, c') :: rest)
theorem ok__law_tags (T : Txt K mg a) : Def P w K mg base 3 a.f__law_tags ["kit", "many"] (FSn 2 (F_tags)) := by
  have nd := sc__law_tags.nd
  have C__law_toss := ok__law_toss (P := P) (w := w) (base := base) T
  refine defOk T.h__law_tags sc__law_tags (fun _ _ _ h => h.1) (fun cdv A outer s H E hr => by exact (pss_cons (ps_asg (pe_tup (pa_cons pe_str (pa_cons (kx_def K rfl C__law_toss (hr.mono (by decide)) rfl T.g__law_toss T.k__law_toss (pa_cons (pv 0) (pa_cons pe_int pa_nil))) (pa_cons (kx_def K rfl C__law_toss (hr.mono (by decide)) rfl T.g__law_toss T.k__law_toss (pa_cons (pv 0) (pa_cons pe_int pa_nil))) pa_nil)))) (kx_tup K rfl (n := 3) (by rfl) (pgs_cons (pg_name (i := 2) nd rfl (Or.inr rfl)) (pgs_cons (pg_name (i := 3) nd rfl (Or.inl rfl)) (pgs_cons (pg_name (i := 4) nd rfl (Or.inr rfl)) pgs_nil)))))
    (pss_cons (ps_if (PW.pt (pw_and (pt_cmpR (kx_eqU K rfl hr.units) (pv 3) pe_int (nomark _)) (pw_and1 (pt_cmpR op_lt (pv 1) pe_int (nomark _))))) (pss_one (ps_ret (pe_lc (own := [("k", 9)]) (g := (gName 9)) (tt := tYes) rfl nd (pi_range1 (by rfl) T.n_range (pa_cons (pv 1) pa_nil)) (blkOk_by (own := [("k", 9)]) (N := N__law_tags) (sc := defScope s__law_tags) (by decide +kernel)) (fun _ _ _ _ _ => (pg_name (i := 9) nd rfl (by first | exact Or.inl rfl | exact Or.inr rfl))) (fun _ _ _ _ _ => pts_nil) (fun _ _ _ _ _ => (pe_op op_mulU (pe_ix (kx_ix K rfl hr.units) (pv 2) (pv 4) (fun _ _ => rfl)) (pe_op op_addU (pv 9) pe_int)))))) pss_nil)
    (pss_cons (ps_if (pt_cmpR (kx_eqU K rfl hr.units) (pv 3) pe_int (nomark _)) (pss_cons (ps_set (i := 5) nd rfl (Or.inr rfl) (pe_lst (pa_cons pe_str (pa_cons pe_str (pa_cons pe_str (pa_cons pe_str (pa_cons pe_str (pa_cons pe_str (pa_cons pe_str (pa_cons pe_str (pa_cons pe_str (pa_cons pe_str (pa_cons pe_str (pa_cons pe_str pa_nil))))))))))))))
    (pss_one (ps_ret (pe_lc (own := [("k", 9)]) (g := (gName 9)) (tt := tYes) rfl nd (pi_range1 (by rfl) T.n_range (pa_cons (pv 1) pa_nil)) (blkOk_by (own := [("k", 9)]) (N := N__law_tags) (sc := defScope s__law_tags) (by decide +kernel)) (fun _ _ _ _ _ => (pg_name (i := 9) nd rfl (by first | exact Or.inl rfl | exact Or.inr rfl))) (fun _ _ _ _ _ => pts_nil) (fun _ _ _ _ _ => (pe_ix (kx_ix K rfl hr.units) (pv 5) (pe_op op_mod (pe_callTy cr_int1 (by rfl) T.n_int (by decide +kernel) (pa_cons (pe_op op_addU (pv 4) (pe_op op_mulU pe_int (pv 9))) pa_nil)) pe_int) (fun _ _ => rfl))))))) pss_nil)
    (pss_cons (ps_set (i := 6) nd rfl (Or.inr rfl) (kx_bm K rfl PySem.F.plainAttrs_str PySem.F.slot_str_join PySem.F.type_str_join (kx_join K rfl) pe_str (pa_cons (pe_lc (own := [("turn", 10)]) (g := (gName 10)) (tt := tYes) rfl nd (pi_range1 (by rfl) T.n_range (pa_cons (pe_op op_addU pe_int (kx_def K rfl C__law_toss (hr.mono (by decide)) rfl T.g__law_toss T.k__law_toss (pa_cons (pv 0) (pa_cons pe_int pa_nil)))) pa_nil)) (blkOk_by (own := [("turn", 10)]) (N := N__law_tags) (sc := defScope s__law_tags) (by decide +kernel)) (fun _ _ _ _ _ => (pg_name (i := 10) nd rfl (by first | exact Or.inl rfl | exact Or.inr rfl))) (fun _ _ _ _ _ => pts_nil) (fun _ _ _ _ _ => (pe_ix (kx_ix K rfl hr.units) (pv 2) (kx_def K rfl C__law_toss (hr.mono (by decide)) rfl T.g__law_toss T.k__law_toss (pa_cons (pv 0) (pa_cons pe_int pa_nil))) (fun _ _ => rfl)))) pa_nil)))
    (pss_cons (ps_asg (pe_tup (pa_cons (kx_def K rfl C__law_toss (hr.mono (by decide)) rfl T.g__law_toss T.k__law_toss (pa_cons (pv 0) (pa_cons (pe_callB (kx_len K rfl) (by rfl) T.n_len (by decide +kernel) (pa_cons (pv 6) pa_nil)) pa_nil))) (pa_cons (pe_ix (kx_ix K rfl hr.units) (pe_lst (pa_cons pe_int (pa_cons pe_int (pa_cons pe_int (pa_cons pe_int (pa_cons pe_int pa_nil)))))) (kx_def K rfl C__law_toss (hr.mono (by decide)) rfl T.g__law_toss T.k__law_toss (pa_cons (pv 0) (pa_cons pe_int pa_nil))) (fun _ _ => rfl)) pa_nil))) (kx_tup K rfl (n := 2) (by rfl) (pgs_cons (pg_name (i := 7) nd rfl (Or.inr rfl)) (pgs_cons (pg_name (i := 8) nd rfl (Or.inr rfl)) pgs_nil))))
    (pss_one (ps_ret (pe_lc (own := [("k", 9)]) (g := (gName 9)) (tt := tYes) rfl nd (pi_range1 (by rfl) T.n_range (pa_cons (pv 1) pa_nil)) (blkOk_by (own := [("k", 9)]) (N := N__law_tags) (sc := defScope s__law_tags) (by decide +kernel)) (fun _ _ _ _ _ => (pg_name (i := 9) nd rfl (by first | exact Or.inl rfl | exact Or.inr rfl))) (fun _ _ _ _ _ => pts_nil) (fun _ _ _ _ _ => (pe_op op_addU (pe_op op_addU (pe_slice (kx_sl K rfl) (pv 6) po_none (po_some (pv 7))) (pe_ix (kx_ix K rfl hr.units) (pv 2) (pe_op op_mod (pe_callTy cr_int1 (by rfl) T.n_int (by decide +kernel) (pa_cons (pe_op op_addU (pv 4) (pe_op op_mulU (pv 8) (pv 9))) pa_nil)) pe_int) (fun _ _ => rfl))) (pe_slice (kx_sl K rfl) (pv 6) (po_some (pe_op op_addU (pv 7) pe_int)) po_none)))))))))))) (fun ds m Q h => ?_)
  replace h := h.2
  clear nd
  obtain ⟨p, c, rest, n, k, rfl, rfl, hk, hn, k12, q⟩ := h
  walk_at "s"
  refine ew_tup ?_
  walk_at "s"
  refine use_toss hk (by omega) (by omega) (by omega) fun way c1 hw k1 => ?_
  walk_at "s"
  refine use_toss k1 (by omega) (by omega) (by omega) fun at_ c2 ha k2 => ?_
  have ha : at_ < 26 := by omega
  walk_at "s"
  refine ⟨Nat.le_of_ble_eq_true rfl, gw_tup rfl ?_⟩
  walk_at "s"
  have sizeL : LET.length ≤ sizeLine := le_sz (by decide +kernel)
  obtain ⟨ch, hat, _, hch⟩ := LET_at at_ ha
  refine sw_ifJ (fun δ' m' => δ' = [some (.adr p), some (.int (k : Nat)), some (.str LET), some (.int (way : Nat)), some (.int (at_ : Nat)), none, none, none, none, none, none] ∧ m' = (p, c2) :: rest) ?_ ?_
  · walk_at "s"
    refine iteD (fun h0 => ?_) (fun h0 => ?_)
    · walk_at "s"
      refine iteD (fun h9 => ?_) (fun h9 => ?_)
      · have h9 : k ≤ 8 := by omega
        walk_at "s"
        refine ew_lcF (tame_name (by decide)) (iw_rngN ?_)
        walk_at "s"
        refine ⟨by omega, Nat, List.range k, natD, fun i => .str (Txt.mul ⟨#[ch]⟩ ((i : Nat) + 1)), rfl, by rw [List.length_range]; exact le_sz (by omega), ?_, ?_⟩
        · intro i acc z hi
          have hi : i < k := List.mem_range.mp hi
          walk_at "s"
          refine ⟨rfl, ?_⟩
          walk_at "s"
          refine ow_ixS sizeL hat ?_
          walk_at "s"
          refine ow_mulS (mulOk1 ch (by omega) (by omega)) ?_
          exact ⟨rfl, rfl⟩
        · have t : Tags k ((List.range k).map fun i => Txt.mul ⟨#[ch]⟩ ((i : Nat) + 1)) := by
            refine ⟨by simp, nd_mapOn (fun a _ b _ e => ?_) List.nodup_range, fun x hx => ?_⟩
            · have e2 := congrArg (fun x : Str => x.cps.toList.length) e
              simp only [mul_one_list, List.length_replicate] at e2
              omega
            · obtain ⟨i, hi, rfl⟩ := List.mem_map.mp hx
              have hi : i < k := List.mem_range.mp hi
              refine name_of (mul_one_list ch _) (by rw [List.length_replicate]; omega) (by rw [List.length_replicate]; omega) fun c hc => ?_
              rw [(List.mem_replicate.mp hc).2]
              exact hch
          have q2 := q _ c2 t (k2.up (by omega))
          rw [List.map_map] at q2
          exact q2
      · walk_at "s"
        exact ⟨rfl, rfl⟩
    · rw [if_neg Bool.false_ne_true]
      walk_at "s"
      exact ⟨rfl, rfl⟩
  · rintro δ' m' ⟨rfl, rfl⟩
    walk_at "s"
    refine sw_if ?_
    walk_at "s"
    refine iteD (fun h0 => ?_) (fun h0 => ?_)
    · walk_at "s"
      refine ew_lst ?_
      walk_at "s"
      refine ⟨Nat.le_of_ble_eq_true rfl, ?_⟩
      walk_at "s"
      have et : [D.str "early", .str "keyed", .str "ranks", .str "plain", .str "look", .str "off", .str "on", .str "add", .str "state", .str "cut", .str "done", .str "run"] = T12.map D.str := rfl
      rw [et]
      refine ew_lcF (tame_name (by decide)) (iw_rngN ?_)
      walk_at "s"
      refine ⟨by omega, Nat, List.range k, natD, fun i => .str (T12.getD ((at_ + 5 * i) % 12) ""), rfl, by rw [List.length_range]; exact le_sz (by omega), ?_, ?_⟩
      · intro i acc z hi
        have hi : i < k := List.mem_range.mp hi
        have hm : (at_ + 5 * i) % 12 < T12.length := Nat.mod_lt _ (by decide)
        walk_at "s"
        refine ⟨rfl, ?_⟩
        walk_at "s"
        refine ow_mul2 (by decide) ?_
        walk_at "s"
        refine ow_ic (by decide) ?_
        rw [show ((at_ : Nat) : Int) + 5 * ((i : Nat) : Int) = ((at_ + 5 * i : Nat) : Int) by omega, show (((at_ + 5 * i : Nat) : Int) % 12) = (((at_ + 5 * i) % 12 : Nat) : Int) by omega]
        refine oi_L (at_map (f := D.str) (List.getElem?_eq_getElem hm)) ?_
        refine ⟨?_, rfl⟩
        show _ = D.str _
        rw [List.getD_eq_getElem?_getD, List.getElem?_eq_getElem hm]
        rfl
      · have t : Tags k ((List.range k).map fun i => T12.getD ((at_ + 5 * i) % 12) "") := by
          refine ⟨by simp, nd_mapOn (fun a ha2 b hb2 e => ?_) List.nodup_range, fun x hx => ?_⟩
          · have ha2 := List.mem_range.mp ha2
            have hb2 := List.mem_range.mp hb2
            have h1 : (at_ + 5 * a) % 12 < T12.length := Nat.mod_lt _ (by decide)
            have h2 : (at_ + 5 * b) % 12 < T12.length := Nat.mod_lt _ (by decide)
            rw [List.getD_eq_getElem?_getD, List.getElem?_eq_getElem h1, List.getD_eq_getElem?_getD, List.getElem?_eq_getElem h2, Option.getD_some, Option.getD_some] at e
            have a1 := T12_nd.idxOf_getElem _ h1
            have a2 := T12_nd.idxOf_getElem _ h2
            rw [e] at a1
            omega
          · obtain ⟨i, _, rfl⟩ := List.mem_map.mp hx
            have hm : (at_ + 5 * i) % 12 < T12.length := Nat.mod_lt _ (by decide)
            rw [List.getD_eq_getElem?_getD, List.getElem?_eq_getElem hm]
            exact T12_nm _ (List.getElem_mem hm)
        have q2 := q _ c2 t (k2.up (by omega))
        rw [List.map_map] at q2
        exact q2
    · walk_at "s"
      refine ⟨ty_S, ?_⟩
      walk_at "s"
      refine ew_lcD (α := Nat) (fun c => .str (chS c)) (fun _ c => c ∈ LET.cps.toList) (fun j m' => ∃ c' : Cell, m' = (p, c') :: rest ∧ Kit (n + 3 + j) c') (tame_name (by decide)) (iw_rngN ?_)
      walk_at "s"
      refine use_toss k2 (by omega) (by omega) (by omega) fun r3 c3 h3 k3 => ?_
      walk_at "s"
      rw [show (1 : Int) + (r3 : Nat) = ((1 + r3 : Nat) : Int) by omega]
      refine ⟨1 + r3, rfl, by omega, List.range (1 + r3), _, rfl, by rw [List.length_range]; exact le_sz (by omega), ⟨c3, rfl, k3⟩, ?_, ?_⟩
      · rintro j x acc m' z hx ⟨c', rfl, kc⟩
        obtain ⟨hj, rfl⟩ := range_get hx
        walk_at "s"
        refine ⟨rfl, ?_⟩
        walk_at "s"
        refine use_toss kc (by omega) (by omega) (by omega) fun r4 c4 h4 k4 => ?_
        obtain ⟨ch4, hat4, _, hch4⟩ := LET_at r4 (by omega)
        refine ow_ixS sizeL hat4 ?_
        exact ⟨ch4, (p, c4) :: rest, rfl, hch4, rfl, c4, rfl, k4⟩
      · rintro cs m' hl hcs ⟨c4, rfl, k4⟩
        rw [List.length_range] at hl k4
        walk_at "s"
        have ecs : (cs.map fun c => D.str (chS c)) = (cs.map chS).map D.str := by rw [List.map_map]; rfl
        rw [ecs]
        refine cw_join (by rw [chs_sum, List.length_map, show (Str.ofString "").length = 0 from rfl]; omega) ?_
        have hst := join_chs2 cs
        generalize Txt.join "" (cs.map chS) = stem at hst ⊢
        have hsl : stem.length = 1 + r3 := by
          rw [← hl, ← hst]
          simp [Str.length]
        have hcm : ∀ c ∈ cs, c ∈ LET.cps.toList := fun c hc => by
          obtain ⟨i, hi⟩ := List.getElem?_of_mem hc
          exact hcs i c hi
        walk_at "s"
        refine ew_tup ?_
        walk_at "s"
        refine cw_lenS (le_sz (by omega)) ?_
        walk_at "s"
        refine use_toss k4 (by omega) (by omega) (by omega) fun spot c5 h5 k5 => ?_
        have h5 : spot < 1 + r3 := by omega
        walk_at "s"
        refine ew_lst ?_
        walk_at "s"
        refine ⟨Nat.le_of_ble_eq_true rfl, ?_⟩
        walk_at "s"
        refine use_toss k5 (by omega) (by omega) (by omega) fun r6 c6 h6 k6 => ?_
        obtain ⟨pace, hp, hpc⟩ : ∃ pace : Nat, L2.atI [D.int 1, .int 3, .int 5, .int 7, .int 11] ((r6 : Nat) : Int) = some (.int (pace : Nat)) ∧ (pace = 1 ∨ pace = 3 ∨ pace = 5 ∨ pace = 7 ∨ pace = 11) := by
          rcases (by omega : r6 = 0 ∨ r6 = 1 ∨ r6 = 2 ∨ r6 = 3 ∨ r6 = 4) with rfl | rfl | rfl | rfl | rfl
          · exact ⟨1, rfl, .inl rfl⟩
          · exact ⟨3, rfl, .inr (.inl rfl)⟩
          · exact ⟨5, rfl, .inr (.inr (.inl rfl))⟩
          · exact ⟨7, rfl, .inr (.inr (.inr (.inl rfl)))⟩
          · exact ⟨11, rfl, .inr (.inr (.inr (.inr rfl)))⟩
        refine oi_L hp ?_
        walk_at "s"
        refine ⟨Nat.le_of_ble_eq_true rfl, gw_tup rfl ?_⟩
        walk_at "s"
        refine ew_lcF (tame_name (by decide)) (iw_rngN ?_)
        walk_at "s"
        refine ⟨by omega, Nat, List.range k, natD, fun i => .str (cutS stem none (some ((spot : Nat) : Int)) ++ chS (LET.cps.toList.getD ((at_ + pace * i) % 26) 0) ++ cutS stem (some ((spot + 1 : Nat) : Int)) none), rfl, by rw [List.length_range]; exact le_sz (by omega), ?_, ?_⟩
        · intro i acc z hi
          have hi : i < k := List.mem_range.mp hi
          walk_at "s"
          refine ⟨rfl, ?_⟩
          walk_at "s"
          refine lw_S (le_sz (by omega)) ?_
          walk_at "s"
          obtain ⟨chi, hati, hgeti, hmi⟩ := LET_at ((at_ + pace * i) % 26) (Nat.mod_lt _ (by decide))
          have hch0 : LET.cps.toList.getD ((at_ + pace * i) % 26) 0 = chi := by rw [List.getD_eq_getElem?_getD, hgeti]; rfl
          have l1 : (cutS stem none (some ((spot : Nat) : Int))).length ≤ 8 := by
            have e : (cutS stem none (some ((spot : Nat) : Int))).length = (cutS stem none (some ((spot : Nat) : Int))).cps.toList.length := by simp [Str.length]
            rw [e, cutS_to, hst, List.length_take]
            omega
          have l2 : (cutS stem (some ((spot + 1 : Nat) : Int)) none).length ≤ 8 := by
            have e : (cutS stem (some ((spot + 1 : Nat) : Int)) none).length = (cutS stem (some ((spot + 1 : Nat) : Int)) none).cps.toList.length := by simp [Str.length]
            rw [e, cutS_from, hst, List.length_drop]
            omega
          have l3 : (chS chi).length = 1 := rfl
          have l4 : (cutS stem none (some ((spot : Nat) : Int)) ++ chS chi).length ≤ 9 := by
            have e : (cutS stem none (some ((spot : Nat) : Int)) ++ chS chi).length = (cutS stem none (some ((spot : Nat) : Int)) ++ chS chi).cps.toList.length := by simp [Str.length]
            rw [e, app_cps, List.length_append]
            have e1 : (cutS stem none (some ((spot : Nat) : Int))).length = (cutS stem none (some ((spot : Nat) : Int))).cps.toList.length := by simp [Str.length]
            have e2 : (chS chi).cps.toList.length = 1 := rfl
            omega
          refine ow_mul2 (by omega) ?_
          walk_at "s"
          refine ow_ic (by decide) ?_
          rw [show ((at_ : Nat) : Int) + (pace : Int) * (i : Int) = ((at_ + pace * i : Nat) : Int) by rw [Int.natCast_add, Int.natCast_mul], show (((at_ + pace * i : Nat) : Int) % 26) = (((at_ + pace * i) % 26 : Nat) : Int) by omega]
          refine ow_ixS sizeL hati ?_
          refine ow_addS (le_sz (show _ + (chS chi).length ≤ 16777216 by omega)) ?_
          walk_at "s"
          refine lw_S (le_sz (by omega)) ?_
          rw [show ((spot : Nat) : Int) + 1 = ((spot + 1 : Nat) : Int) by omega]
          refine ow_addS (le_sz (show (cutS stem none (some ((spot : Nat) : Int)) ++ chS chi).length + _ ≤ 16777216 by omega)) ?_
          refine ⟨?_, rfl⟩
          show _ = D.str _
          rw [hch0]
        · have cps : ∀ i, (cutS stem none (some ((spot : Nat) : Int)) ++ chS (LET.cps.toList.getD ((at_ + pace * i) % 26) 0) ++ cutS stem (some ((spot + 1 : Nat) : Int)) none).cps.toList = cs.take spot ++ [LET.cps.toList.getD ((at_ + pace * i) % 26) 0] ++ cs.drop (spot + 1) := fun i => by
            rw [app_cps, app_cps, cutS_to, cutS_from, hst]
          have t : Tags k ((List.range k).map fun i => cutS stem none (some ((spot : Nat) : Int)) ++ chS (LET.cps.toList.getD ((at_ + pace * i) % 26) 0) ++ cutS stem (some ((spot + 1 : Nat) : Int)) none) := by
            refine ⟨by simp, nd_mapOn (fun a ha2 b hb2 e => ?_) List.nodup_range, fun x hx => ?_⟩
            · have ha2 := List.mem_range.mp ha2
              have hb2 := List.mem_range.mp hb2
              have e2 := congrArg (fun x : Str => x.cps.toList) e
              simp only [cps] at e2
              have e3 := List.append_cancel_right e2
              have e4 := List.append_cancel_left e3
              have e5 : LET.cps.toList.getD ((at_ + pace * a) % 26) 0 = LET.cps.toList.getD ((at_ + pace * b) % 26) 0 := by injection e4
              have hl26 : LET.cps.toList.length = 26 := by decide +kernel
              have g1 : (at_ + pace * a) % 26 < LET.cps.toList.length := by rw [hl26]; exact Nat.mod_lt _ (by decide)
              have g2 : (at_ + pace * b) % 26 < LET.cps.toList.length := by rw [hl26]; exact Nat.mod_lt _ (by decide)
              rw [List.getD_eq_getElem?_getD, List.getElem?_eq_getElem g1, List.getD_eq_getElem?_getD, List.getElem?_eq_getElem g2, Option.getD_some, Option.getD_some] at e5
              have a1 := LET_nd.idxOf_getElem _ g1
              have a2 := LET_nd.idxOf_getElem _ g2
              rw [e5] at a1
              have a3 : (at_ + pace * a) % 26 = (at_ + pace * b) % 26 := a1.symm.trans a2
              rcases hpc with rfl | rfl | rfl | rfl | rfl <;> omega
            · obtain ⟨i, _, rfl⟩ := List.mem_map.mp hx
              obtain ⟨chi, _, hgeti, hmi⟩ := LET_at ((at_ + pace * i) % 26) (Nat.mod_lt _ (by decide))
              refine name_of (cps i) ?_ ?_ fun c hc => ?_
              · simp only [List.length_append, List.length_take, List.length_drop, List.length_cons, List.length_nil]
                omega
              · simp only [List.length_append, List.length_take, List.length_drop, List.length_cons, List.length_nil]
                omega
              · rcases List.mem_append.mp hc with hc | hc
                · rcases List.mem_append.mp hc with hc | hc
                  · exact hcm c (List.mem_of_mem_take hc)
                  · rw [List.mem_singleton] at hc
                    rw [hc, List.getD_eq_getElem?_getD, hgeti]
                    exact hmi
                · exact hcm c (List.mem_of_mem_drop hc)
          have q2 := q _ c6 t (k6.up (by omega))
          rw [List.map_map] at q2
          exact q2

end
end DL

set_option Elab.async false
set_option linter.all false
set_option maxRecDepth 100000
set_option maxHeartbeats 4000000
set_option autoImplicit false
namespace DL
open PySem PySem.Spec PyProof.Rows L2
local macro_rules | `(tactic| walk_at "m") => `(tactic| first
  | with_reducible exact MAt.last | with_reducible exact MUp.last
  | exact MAt.zero | exact MUp.zero | exact MAt.last | exact MUp.last
  | (apply MAt.cons; walk_at "m") | (apply MUp.cons; walk_at "m")
  | (apply MAt.app; walk_at "m") | (apply MUp.app; walk_at "m")
  | assumption)
local macro_rules | `(tactic| walk_at "s1") => `(tactic| with_reducible first
  | refine sw_seq ?_ | refine sw_next ?_ | refine sw_ret ?_ | refine sw_retN ?_ | refine sw_asg ?_ | refine sw_asgG ?_ | refine sw_drop ?_ | refine sw_break ?_ | refine sw_cont ?_ | refine sw_par ?_ | refine sw_par3 ?_
  | refine tw_test ?_ | refine tw_B ?_ | refine tw_and ?_ | refine tw_or ?_ | refine tw_not ?_ | refine tw_yes ?_
  | refine ew_op ?_ | refine ew_un ?_ | refine ew_int ?_ | refine ew_non ?_ | refine ew_bl ?_ | refine ew_str ?_ | refine ew_ty ?_ | refine ew_ref ?_ | refine ew_cb ?_ | refine ew_if ?_ | refine ew_andV ?_ | refine ew_orV ?_ | refine ew_notV ?_ | refine ew_chain ?_ | refine ew_sl ?_ | refine pw_no ?_ | refine pw_part ?_
  | refine ew_call0 ?_ | refine ew_kw0 ?_
  | refine aw_nil ?_ | refine aw_cons ?_ | refine ew_bm ?_ | refine ew_bm0 ?_ | refine gs_L ?_
  | refine gs_nil ?_ | refine gs_cons ?_ | refine gw_name ?_
  | refine ow_addI ?_ | refine ow_odd ?_ | refine ow_i0 ?_ | refine ow_b0 ?_ | refine oq_eqI ?_ | refine oq_neI ?_ | refine oq_eqS ?_ | refine oq_neS ?_ | refine ow_isN ?_ | refine ow_notN ?_ | refine uw_neg ?_ | refine cw_int ?_ | refine cw_intB ?_ | refine cw_abs ?_ | refine cw_mx2 ?_ | refine cw_mn2 ?_ | refine cw_lenL ?_ | refine cw_lenR ?_ | refine cw_listL ?_ | refine cw_listT ?_ | refine lw_L ?_ | refine ew_revL ?_)
local macro_rules | `(tactic| walk_at "s2") => `(tactic| first
  | ((with_reducible refine' ew_var ?hv ?_); (case hv => exact rfl))
  | ((with_reducible refine' oi_M ?hm ?hi ?_); (case hm => walk_at "m"); (case hi => exact rfl))
  | ((with_reducible refine' ow_ixT ?hi ?_); (case hi => exact rfl))
  | ((with_reducible refine' cl_M ?hm ?_); (case hm => walk_at "m"))
  | ((with_reducible refine' ci_M ?hm ?_); (case hm => walk_at "m"))
  | ((with_reducible refine' ma_app ?hm ?ll ?_); (case hm => walk_at "m"); (case ll => walk_at "l"))
  | ((with_reducible refine' And.intro (ty_A ?hm) ?_); (case hm => walk_at "m"))
  | (with_reducible refine' Exists.intro _ (And.intro ?he ?_); (case he => exact rfl))
  | (with_reducible refine' Exists.intro _ (Exists.intro _ (And.intro ?he ?_)); (case he => exact rfl))
  | (with_reducible refine' Exists.intro _ (Exists.intro _ (Exists.intro _ (And.intro ?he ?_))); (case he => exact rfl))
  | ((with_reducible refine' Exists.intro _ (Exists.intro _ (Exists.intro _ (Exists.intro _ (Exists.intro _ (And.intro ?e1 (And.intro ?e2 (And.intro ?hm (And.intro ?hi ?_))))))))); (case e1 => exact rfl); (case e2 => exact rfl); (case hm => walk_at "m"); (case hi => exact rfl)))
local macro_rules | `(tactic| walk_at "l") => `(tactic| first | assumption | exact lt_sz (by omega) | exact lt_sz (by simp only [List.length_map, List.length_append, List.length_cons, List.length_nil, List.length_take, List.length_drop, List.length_range]; omega))
local macro_rules | `(tactic| walk_at "s") => `(tactic| repeat (first | walk_at "s1" | walk_at "s2"))
local macro_rules | `(tactic| walk_at "sx") => `(tactic| with_reducible first
  | refine swx_of ?_ | refine swx_seq ?_ | refine swx_drop ?_ | refine swx_asg ?_ | refine swx_ret ?_ | refine ewx_fun ?_ | refine ewx_meth ?_ | refine ewx_make ?_ | refine ewx_sub ?_)
local macro_rules | `(tactic| walk_at "s") => `(tactic| repeat (first | walk_at "s1" | walk_at "s2" | walk_at "sx"))
local macro_rules | `(tactic| walk_at "g1") => `(tactic| with_reducible first
  | refine ew_tup2 ?_ | refine ew_tup3 ?_ | refine ew_tup4 ?_ | refine ew_fldI ?_ | refine sw_fldA ?_ | refine ew_dget1 ?_ | refine ew_dget2 ?_ | refine ow_isN ?_)
local macro_rules | `(tactic| walk_at "g2") => `(tactic| first
  | ((with_reducible refine' gw_tup ?e ?_); (case e => exact rfl))
  | ((with_reducible refine' oi_L ?e ?_); (case e => exact rfl))
  | ((refine' Exists.intro _ (And.intro ?cl (And.intro ?na (And.intro ?e ?_)))); (case cl => assumption); (case na => assumption); (case e => exact rfl))
  | ((refine' Exists.intro _ (Exists.intro _ (Exists.intro _ (Exists.intro _ (And.intro ?e (And.intro ?hm (And.intro ?cl (And.intro ?na (And.intro ?l ?_))))))))); (case e => exact rfl); (case hm => walk_at "m"); (case cl => assumption); (case na => assumption); (case l => exact Nat.le_of_ble_eq_true rfl)))
local macro_rules | `(tactic| walk_at "g") => `(tactic| repeat (first | walk_at "s1" | walk_at "s2" | walk_at "sx" | walk_at "g1" | walk_at "g2"))

section
variable {P : Program} {w : World} {K : PySem.W.Frag} {mg : Str → Option Value} {base : Heap} {a : Ads}
theorem strs_nb {ws : List Str} (h : ∀ x ∈ ws, PyData.strOk x = true) : (D.lst (ws.map .str)).nb 1 = true := by
  show (ws.map D.str).all (D.nb 0) = true
  rw [List.all_eq_true]
  intro x hx
  obtain ⟨p, hp, rfl⟩ := List.mem_map.mp hx
  exact h p hp
theorem strD_inj {ws ws' : List Str} (h : ws.map D.str = ws'.map D.str) : ws = ws' := by
  induction ws generalizing ws' with
  | nil => cases ws' with
    | nil => rfl
    | cons => cases h
  | cons a l ih => cases ws' with
    | nil => cases h
    | cons b l' =>
      rw [List.map_cons, List.map_cons] at h
      injection h with h1 h2
      injection h1 with h1
      rw [h1, ih h2]
theorem mapD_inj {α : Type} {f : α → D} (hf : ∀ x y, f x = f y → x = y) : ∀ {xs ys : List α}, xs.map f = ys.map f → xs = ys
  | [], [], _ => rfl
  | [], _ :: _, h => by cases h
  | _ :: _, [], h => by cases h
  | a :: l, b :: l', h => by
    rw [List.map_cons, List.map_cons] at h
    injection h with h1 h2
    rw [hf _ _ h1, mapD_inj hf h2]
abbrev kkD (p : Str × Str) : Key × D := (Sum.inr p.1, .str p.2)
abbrev rrD (p : Str × Int) : Key × D := (Sum.inr p.1, .int p.2)
abbrev kpD (p : Str × Str) : D := .tup [.str p.1, .str p.2]
abbrev rpD (p : Str × Int) : D := .tup [.str p.1, .int p.2]
abbrev ruleD (C : Addr) (E : List Str) (K : List (Str × Str)) (N : List (Str × Int)) : D := .ins C [("_early", .lst (E.map .str)), ("_keyed", .lst (K.map kpD)), ("_ranks", .lst (N.map rpD))]
abbrev planD (e : List Str) (k : List (Str × Str)) (r : List (Str × Int)) : D := .tup [.lst (e.map .str), .lst (k.map kpD), .lst (r.map rpD)]
/-- what a list of pairs tells of a name -/
def lk {α : Type} (l : List (Str × α)) (n : Str) : Option α := (l.find? fun p => decide (p.1 = n)).map (·.2)
def get {α : Type} (l : List (Str × α)) (n : Str) (d : α) : α := (lk l n).getD d
theorem valD_lk {α : Type} (f : α → D) (l : List (Str × α)) (n : Str) : valD (l.map fun p => (Sum.inr p.1, f p.2)) (.inr n) = (lk l n).map f := by
  unfold valD lk
  rw [List.find?_map, Option.map_map, Option.map_map]
  have : ((fun kv : Key × D => decide (kv.1 = Sum.inr n)) ∘ fun p : Str × α => ((Sum.inr p.1 : Key), f p.2)) = fun p => decide (p.1 = n) := by
    funext p
    show decide ((Sum.inr p.1 : Key) = Sum.inr n) = _
    by_cases h : p.1 = n
    · rw [h]; simp
    · rw [decide_eq_false h, decide_eq_false (fun e => h (by injection e))]
  rw [this]
  rfl
theorem lk_mem {α : Type} {l : List (Str × α)} {n : Str} (h : n ∈ l.map (·.1)) : ∃ v, lk l n = some v ∧ (n, v) ∈ l := by
  obtain ⟨p, hp, rfl⟩ := List.mem_map.mp h
  unfold lk
  cases c : l.find? fun q => decide (q.1 = p.1) with
  | none =>
    have := List.find?_eq_none.mp c p hp
    simp at this
  | some q =>
    have h1 := List.find?_some c
    have h1 : q.1 = p.1 := by simpa using h1
    exact ⟨q.2, rfl, by rw [← h1]; exact List.mem_of_find?_eq_some c⟩
theorem pair_inj {α : Type} {l : List (Str × α)} (nd : (l.map (·.1)).Nodup) {n : Str} {v w : α} (h : (n, v) ∈ l) (h' : (n, w) ∈ l) : v = w := by
  induction l with
  | nil => cases h
  | cons a l ih =>
    rw [List.map_cons, List.nodup_cons] at nd
    have no : ∀ {u : α}, (n, u) ∈ l → a.1 ≠ n := fun hu e => nd.1 (e ▸ List.mem_map_of_mem (f := (·.1)) hu)
    rcases List.mem_cons.mp h with h | h <;> rcases List.mem_cons.mp h' with h' | h'
    · rw [← h'] at h
      injection h
    · exact absurd (by rw [← h]) (no h')
    · exact absurd (by rw [← h']) (no h)
    · exact ih nd.2 h h'
theorem lk_some {α : Type} {l : List (Str × α)} (nd : (l.map (·.1)).Nodup) {n : Str} {v : α} (h : (n, v) ∈ l) : lk l n = some v := by
  obtain ⟨w, e, hw⟩ := lk_mem (List.mem_map_of_mem (f := (·.1)) h)
  rw [e, pair_inj nd h hw]
theorem get_mem {α : Type} {l : List (Str × α)} {p : Str × α} {d : α} (nd : (l.map (·.1)).Nodup) (h : p ∈ l) : get l p.1 d = p.2 := by
  unfold get
  rw [lk_some nd (n := p.1) (v := p.2) h]
  rfl
theorem get_map {α : Type} {l : List (Str × α)} {d : α} (nd : (l.map (·.1)).Nodup) : ((l.map (·.1)).map fun n => (n, get l n d)) = l := by
  rw [List.map_map]
  conv => rhs; rw [← List.map_id l]
  refine List.map_congr_left fun p hp => ?_
  show (p.1, get l p.1 d) = p
  rw [get_mem nd hp]
theorem get_perm {α : Type} {l : List (Str × α)} {d : α} (nd : (l.map (·.1)).Nodup) {ys : List Str} (h : ys.Perm (l.map (·.1))) : (ys.map fun n => (n, get l n d)).Perm l := by
  have := h.map fun n => (n, get l n d)
  rwa [get_map nd] at this
theorem val_k {k : List (Str × Str)} {n : Str} (h : n ∈ k.map (·.1)) : valD (k.map kkD) (.inr n) = some (.str (get k n "")) := by
  obtain ⟨v, e, _⟩ := lk_mem h
  rw [show k.map kkD = k.map (fun p => (Sum.inr p.1, D.str p.2)) from rfl, valD_lk (fun x => D.str x)]
  unfold get
  rw [e]
  rfl
theorem val_r {r : List (Str × Int)} {n : Str} (h : n ∈ r.map (·.1)) : valD (r.map rrD) (.inr n) = some (.int (get r n 0)) := by
  obtain ⟨v, e, _⟩ := lk_mem h
  rw [show r.map rrD = r.map (fun p => (Sum.inr p.1, D.int p.2)) from rfl, valD_lk (fun x => D.int x)]
  unfold get
  rw [e]
  rfl
/-- the words of a rule, in the sequence in which they are looked at -/
def lineF (e : List Str) (k : List (Str × Str)) (r : List (Str × Int)) : List Str := e ++ srtS (k.map (·.1)) ++ (srtS (k.map (·.1))).map (fun n => get k n "") ++ srtS (r.map (·.1))
def badF (e : List Str) (k : List (Str × Str)) (r : List (Str × Int)) : Option Str := (lineF e k r).find? fun w => !nameB w
def dupA : List Str → List Str → Option Str
  | _, [] => none
  | seen, x :: l => if x ∈ seen then some x else dupA (seen ++ [x]) l
def dupF (e : List Str) : Option Str := dupA [] e
/-- parts of a rule, of any words -/
structure Prts (e : List Str) (k : List (Str × Str)) (r : List (Str × Int)) : Prop where
  el : e.length ≤ 50
  kl : k.length ≤ 50
  rl : r.length ≤ 50
  ew : ∀ x ∈ e, x.length ≤ 1000
  kw : ∀ p ∈ k, p.1.length ≤ 1000 ∧ p.2.length ≤ 1000
  rw : ∀ p ∈ r, p.1.length ≤ 1000
theorem fst_k (k : List (Str × Str)) : (k.map kkD).map (·.1) = (k.map (·.1)).map Sum.inr := by rw [List.map_map, List.map_map]; rfl
theorem fst_r (r : List (Str × Int)) : (r.map rrD).map (·.1) = (r.map (·.1)).map Sum.inr := by rw [List.map_map, List.map_map]; rfl
theorem srt_mem {ws : List Str} {n : Str} : n ∈ srtS ws ↔ n ∈ ws := (srtS_perm ws).mem_iff
theorem srt_len (ws : List Str) : (srtS ws).length = ws.length := (srtS_perm ws).length_eq
theorem Prts.line {e k r} (o : Prts e k r) : (∀ w ∈ lineF e k r, w.length ≤ 1000) ∧ (lineF e k r).length ≤ 200 := by
  refine ⟨fun w hw => ?_, ?_⟩
  · unfold lineF at hw
    rcases List.mem_append.mp hw with hw | hw
    · rcases List.mem_append.mp hw with hw | hw
      · rcases List.mem_append.mp hw with hw | hw
        · exact o.ew w hw
        · obtain ⟨p, hp, rfl⟩ := List.mem_map.mp (srt_mem.mp hw)
          exact (o.kw p hp).1
      · obtain ⟨n, hn, rfl⟩ := List.mem_map.mp hw
        obtain ⟨v, e1, hv⟩ := lk_mem (srt_mem.mp hn)
        unfold get
        rw [e1]
        exact (o.kw _ hv).2
    · obtain ⟨p, hp, rfl⟩ := List.mem_map.mp (srt_mem.mp hw)
      exact o.rw p hp
  · have h1 := o.el
    have h2 := o.kl
    have h3 := o.rl
    simp only [lineF, List.length_append, List.length_map, srt_len]
    omega
theorem dup_step {e : List Str} {j : Nat} {x : Str} (h : e[j]? = some x) : dupA (e.take j) (e.drop j) = if x ∈ e.take j then some x else dupA (e.take (j + 1)) (e.drop (j + 1)) := by
  obtain ⟨hl, hx⟩ := List.getElem?_eq_some_iff.mp h
  rw [List.drop_eq_getElem_cons hl, hx, dupA, List.take_add_one, h]
  rfl
def F_crule (iN dN : Addr) : FX := fun ds m Q R => ∃ (xe xk xr : D) (e : List Str) (k : List (Str × Str)) (r : List (Str × Int)), ds = [xe, xk, xr] ∧ SeqT m xe (e.map .str) ∧ DctIn m xk (k.map kkD) ∧ DctIn m xr (r.map rrD) ∧ Prts e k r ∧
  (∀ w, badF e k r = some w → R iN (.str w) m) ∧ (badF e k r = none → ∀ w, dupF e = some w → R dN (.str w) m) ∧ (badF e k r = none → dupF e = none → Q .non m)
theorem okx_check_rule (T : Txt K mg a) : DefX P w K mg base 5 a.f_check_rule ["early", "keyed", "ranks"] (FXn 3 (F_crule a.c_InvalidName a.c_DoubleName)) := by
  have nd := sc_check_rule.nd
  have C_CutError___init__ := ok_CutError___init__ (P := P) (w := w) (base := base) T
  have CX_check_name := okx_check_name (P := P) (w := w) (base := base) T
  refine defOkX T.h_check_rule sc_check_rule (fun _ _ _ _ h => h.1) (fun W cdv A outer s H E hr tkW own => ⟨_, (pss_cons (ps_set (i := 3) nd rfl (Or.inl rfl) (pe_callB (kx_sorted K rfl rfl) (by rfl) T.n_sorted (by decide +kernel) (pa_cons (pv 1) pa_nil)))
    (pss_cons (ps_for own rfl (kx_pi K rfl (pe_op op_addU (pe_op op_addU (pe_op op_addU (pe_callTy (kx_list K rfl) (by rfl) T.n_list (by decide +kernel) (pa_cons (pv 0) pa_nil)) (pv 3)) (pe_lc (own := [("name", 6)]) (g := (gName 6)) (tt := tYes) rfl nd (kx_pi K rfl (pv 3)) (blkOk_by (own := [("name", 6)]) (N := N_check_rule) (sc := defScope s_check_rule) (by decide +kernel)) (fun _ _ _ _ _ => (pg_name (i := 6) nd rfl (by first | exact Or.inl rfl | exact Or.inr rfl))) (fun _ _ _ _ _ => pts_nil) (fun _ _ _ _ _ => (pe_ix (kx_ix K rfl hr.units) (pv 1) (pv 6) (fun _ _ => rfl))))) (pe_callB (kx_sorted K rfl rfl) (by rfl) T.n_sorted (by decide +kernel) (pa_cons (pv 2) pa_nil)))) (pg_name (i := 4) nd rfl (Or.inl rfl)) (pss_one (ps_expr (kx_funX K rfl CX_check_name T.kb_check_name_1 (hr.mono (by decide)) rfl T.g_check_name T.k_check_name (pa_cons (pv 4) pa_nil) pk_nil tkW))))
    (pss_cons (ps_set (i := 5) nd rfl (Or.inl rfl) (pe_callTy0 (kx_set0 K rfl P w rfl rfl) (by rfl) T.n_set (by decide +kernel)))
    (pss_one (ps_for own rfl (kx_pi K rfl (pv 0)) (pg_name (i := 6) nd rfl (Or.inl rfl)) (pss_cons (ps_if (pt_cmpR (kx_in K rfl P w rfl rfl hr.units) (pv 6) (pv 5) (by with_unfolding_all rfl)) (pss_one (kx_raise K rfl rfl tkW T.er_DoubleName C_CutError___init__ (hr.mono (by decide)) rfl T.g_DoubleName (pa_cons (pv 6) pa_nil))) pss_nil)
    (pss_one (ps_expr (kx_sadd K rfl P w rfl rfl (pv 5) (pa_cons (pv 6) pa_nil)))))))))), rfl⟩) (fun ds m Q R h => ?_)
  replace h := h.2
  clear nd
  have er2 := T.er_DoubleName
  obtain ⟨xe, xk, xr, e, k, r, rfl, he, hk, hr, ok, r1, r2, q⟩ := h
  have el := ok.el
  have kl := ok.kl
  have rl := ok.rl
  obtain ⟨lw, ll⟩ := ok.line
  refine swx_free ?_
  walk_at "g"
  refine cD_sort hk (fst_k k) (by rw [List.length_map]; omega) ?_
  walk_at "g"
  have sl : (srtS (k.map (·.1))).length ≤ 50 := by rw [srt_len, List.length_map]; exact kl
  have sl2 : (srtS (r.map (·.1))).length ≤ 50 := by rw [srt_len, List.length_map]; exact rl
  refine swx_J (fun δ' m' => (∃ x4, δ' = [some xe, some xk, some xr, some (.lst ((srtS (k.map (·.1))).map .str)), x4, none, none] ∧ m' = m) ∧ badF e k r = none) ?_ ?_
  · refine swx_forX (iw_any ?_)
    walk_at "g"
    refine cT_list he ?_
    walk_at "g"
    refine ow_addL (le_sz (by simp only [List.length_map]; omega)) ?_
    walk_at "g"
    refine ew_lcF (tame_name (by decide)) (iw_any ?_)
    walk_at "g"
    refine ⟨_, .inl rfl, Str, srtS (k.map (·.1)), D.str, fun n => .str (get k n ""), rfl, le_sz (by omega), ?_, ?_⟩
    · intro n acc z hn
      walk_at "g"
      refine ⟨rfl, ?_⟩
      walk_at "g"
      refine oD_ix hk.app (val_k (srt_mem.mp hn)) ?_
      exact ⟨rfl, rfl⟩
    refine ow_addL (le_sz (by simp only [List.length_map, List.length_append]; omega)) ?_
    walk_at "g"
    refine cD_sort hr (fst_r r) (by rw [List.length_map]; omega) ?_
    walk_at "g"
    refine ow_addL (le_sz (by simp only [List.length_map, List.length_append]; omega)) ?_
    refine ⟨_, .inl rfl, Str, lineF e k r, D.str, ?_, fun j δ' m' => (∃ x4, δ' = [some xe, some xk, some xr, some (.lst ((srtS (k.map (·.1))).map .str)), x4, none, none] ∧ m' = m) ∧ ∀ w ∈ (lineF e k r).take j, nameB w = true, ?_, ?_, ?_⟩
    · simp only [lineF, List.map_append, List.map_map]
      rfl
    · exact ⟨⟨_, rfl, rfl⟩, fun w hw => by simp at hw⟩
    · rintro j w δ' m' hj ⟨⟨x4, rfl, rfl⟩, before⟩
      walk_at "g"
      refine ⟨rfl, rfl, rfl, w, rfl, le_sz (by have := lw w (List.mem_of_getElem? hj); omega), fun hb => ⟨m', .refl, r1 w ?_⟩, fun hb => ⟨⟨_, rfl, rfl⟩, fun y hy => ?_⟩⟩
      · unfold badF
        obtain ⟨hl, ew⟩ := List.getElem?_eq_some_iff.mp hj
        rw [List.find?_eq_some_iff_getElem]
        refine ⟨by rw [hb]; rfl, j, hl, ew, fun i hi => ?_⟩
        have : nameB (lineF e k r)[i] = true := before _ (List.mem_take_iff_getElem.mpr ⟨i, by omega, rfl⟩)
        simpa using this
      · rw [List.take_add_one, hj] at hy
        rcases List.mem_append.mp hy with hy | hy
        · exact before y hy
        · simp at hy
          rw [hy]
          exact hb
    · rintro δ' m' ⟨⟨x4, rfl, rfl⟩, before⟩
      rw [List.take_length] at before
      exact ⟨⟨_, rfl, rfl⟩, List.find?_eq_none.mpr fun w hw => by simpa using before w hw⟩
  · rintro δ' m' ⟨⟨x4, rfl, rfl⟩, hb⟩
    walk_at "g"
    refine cw_set0 fun z => ?_
    walk_at "g"
    refine swx_forA ?_
    walk_at "g"
    refine ⟨Str, e, D.str, he.app, fun j δ' m2 => ∃ (x6 : Option D) (S : Key → Bool) (n : Nat), δ' = [some xe, some xk, some xr, some (.lst ((srtS (k.map (·.1))).map .str)), x4, some (.adr z), x6] ∧ m2 = m' ++ [(z, setC P w z S n)] ∧ (∀ x : Str, S (.inr x) = decide (x ∈ e.take j)) ∧ n ≤ j ∧ dupF e = dupA (e.take j) (e.drop j), ?_, ?_, ?_, ?_⟩
    · exact ⟨_, _, _, rfl, rfl, fun x => rfl, Nat.le_refl _, rfl⟩
    · rintro j δ' m2 ⟨x6, S, n, rfl, rfl, _, _, _⟩
      exact he.app
    · rintro j l δ' m2 hj ⟨x6, S, n, rfl, rfl, hS, hn, hd⟩
      have hjl := (List.getElem?_eq_some_iff.mp hj).1
      rw [dup_step hj] at hd
      have et : e.take (j + 1) = e.take j ++ [l] := by rw [List.take_add_one, hj]; rfl
      walk_at "g"
      refine swx_if ?_
      walk_at "g"
      refine in_S (x := .inr l) (by walk_at "m") ?_
      rw [hS]
      walk_at "g"
      refine iteD (fun hm => ?_) (fun hm => ?_)
      · rw [if_pos hm] at hd
        refine swx_raise er2 ?_
        walk_at "g"
        exact ⟨m', .app .refl, r2 hb l hd⟩
      · rw [if_neg hm] at hd
        walk_at "g"
        refine ew_saddA ?_
        walk_at "g"
        refine ⟨⟨z, S, n, rfl, by walk_at "m"⟩, ?_⟩
        walk_at "g"
        refine ⟨z, S, n, .inr l, _, rfl, rfl, by walk_at "m", by show n + 1 < 4096; omega, ?_⟩
        refine ⟨_, _, _, rfl, rfl, fun x => ?_, by split <;> omega, hd⟩
        show (S (.inr x) || decide (Sum.inr x = (Sum.inr l : Key))) = _
        rw [hS, et]
        by_cases e' : x = l
        · subst e'
          simp
        · simp [e']
    · rintro δ' m2 ⟨x6, S, n, rfl, rfl, hS, hn, hd⟩
      rw [List.take_length, List.drop_length] at hd
      exact ⟨m', .app .refl, q hb hd⟩
end
end DL

set_option Elab.async false
set_option linter.all false
set_option maxRecDepth 100000
set_option maxHeartbeats 4000000
set_option autoImplicit false
namespace DL
open PySem PySem.Spec PyProof.Rows L2
local macro_rules | `(tactic| walk_at "m") => `(tactic| first
  | with_reducible exact MAt.last | with_reducible exact MUp.last
  | exact MAt.zero | exact MUp.zero | exact MAt.last | exact MUp.last
  | (apply MAt.cons; walk_at "m") | (apply MUp.cons; walk_at "m")
  | (apply MAt.app; walk_at "m") | (apply MUp.app; walk_at "m")
  | assumption)
local macro_rules | `(tactic| walk_at "s1") => `(tactic| with_reducible first
  | refine sw_seq ?_ | refine sw_next ?_ | refine sw_ret ?_ | refine sw_retN ?_ | refine sw_asg ?_ | refine sw_asgG ?_ | refine sw_drop ?_ | refine sw_break ?_ | refine sw_cont ?_ | refine sw_par ?_ | refine sw_par3 ?_
  | refine tw_test ?_ | refine tw_B ?_ | refine tw_and ?_ | refine tw_or ?_ | refine tw_not ?_ | refine tw_yes ?_
  | refine ew_op ?_ | refine ew_un ?_ | refine ew_int ?_ | refine ew_non ?_ | refine ew_bl ?_ | refine ew_str ?_ | refine ew_ty ?_ | refine ew_ref ?_ | refine ew_cb ?_ | refine ew_if ?_ | refine ew_andV ?_ | refine ew_orV ?_ | refine ew_notV ?_ | refine ew_chain ?_ | refine ew_sl ?_ | refine pw_no ?_ | refine pw_part ?_
  | refine ew_call0 ?_ | refine ew_kw0 ?_
  | refine aw_nil ?_ | refine aw_cons ?_ | refine ew_bm ?_ | refine ew_bm0 ?_ | refine gs_L ?_
  | refine gs_nil ?_ | refine gs_cons ?_ | refine gw_name ?_
  | refine ow_addI ?_ | refine ow_odd ?_ | refine ow_i0 ?_ | refine ow_b0 ?_ | refine oq_eqI ?_ | refine oq_neI ?_ | refine oq_eqS ?_ | refine oq_neS ?_ | refine ow_isN ?_ | refine ow_notN ?_ | refine uw_neg ?_ | refine cw_int ?_ | refine cw_intB ?_ | refine cw_abs ?_ | refine cw_mx2 ?_ | refine cw_mn2 ?_ | refine cw_lenL ?_ | refine cw_lenR ?_ | refine cw_listL ?_ | refine cw_listT ?_ | refine lw_L ?_ | refine ew_revL ?_)
local macro_rules | `(tactic| walk_at "s2") => `(tactic| first
  | ((with_reducible refine' ew_var ?hv ?_); (case hv => exact rfl))
  | ((with_reducible refine' oi_M ?hm ?hi ?_); (case hm => walk_at "m"); (case hi => exact rfl))
  | ((with_reducible refine' ow_ixT ?hi ?_); (case hi => exact rfl))
  | ((with_reducible refine' cl_M ?hm ?_); (case hm => walk_at "m"))
  | ((with_reducible refine' ci_M ?hm ?_); (case hm => walk_at "m"))
  | ((with_reducible refine' ma_app ?hm ?ll ?_); (case hm => walk_at "m"); (case ll => walk_at "l"))
  | ((with_reducible refine' And.intro (ty_A ?hm) ?_); (case hm => walk_at "m"))
  | (with_reducible refine' Exists.intro _ (And.intro ?he ?_); (case he => exact rfl))
  | (with_reducible refine' Exists.intro _ (Exists.intro _ (And.intro ?he ?_)); (case he => exact rfl))
  | (with_reducible refine' Exists.intro _ (Exists.intro _ (Exists.intro _ (And.intro ?he ?_))); (case he => exact rfl))
  | ((with_reducible refine' Exists.intro _ (Exists.intro _ (Exists.intro _ (Exists.intro _ (Exists.intro _ (And.intro ?e1 (And.intro ?e2 (And.intro ?hm (And.intro ?hi ?_))))))))); (case e1 => exact rfl); (case e2 => exact rfl); (case hm => walk_at "m"); (case hi => exact rfl)))
local macro_rules | `(tactic| walk_at "l") => `(tactic| first | assumption | exact lt_sz (by omega) | exact lt_sz (by simp only [List.length_map, List.length_append, List.length_cons, List.length_nil, List.length_take, List.length_drop, List.length_range]; omega))
local macro_rules | `(tactic| walk_at "s") => `(tactic| repeat (first | walk_at "s1" | walk_at "s2"))
local macro_rules | `(tactic| walk_at "sx") => `(tactic| with_reducible first
  | refine swx_of ?_ | refine swx_seq ?_ | refine swx_drop ?_ | refine swx_asg ?_ | refine swx_ret ?_ | refine ewx_fun ?_ | refine ewx_meth ?_ | refine ewx_make ?_ | refine ewx_sub ?_)
local macro_rules | `(tactic| walk_at "s") => `(tactic| repeat (first | walk_at "s1" | walk_at "s2" | walk_at "sx"))
local macro_rules | `(tactic| walk_at "g1") => `(tactic| with_reducible first
  | refine ew_tup2 ?_ | refine ew_tup3 ?_ | refine ew_tup4 ?_ | refine ew_fldI ?_ | refine sw_fldA ?_ | refine ew_dget1 ?_ | refine ew_dget2 ?_ | refine ow_isN ?_)
local macro_rules | `(tactic| walk_at "g2") => `(tactic| first
  | ((with_reducible refine' gw_tup ?e ?_); (case e => exact rfl))
  | ((with_reducible refine' oi_L ?e ?_); (case e => exact rfl))
  | ((refine' Exists.intro _ (And.intro ?cl (And.intro ?na (And.intro ?e ?_)))); (case cl => assumption); (case na => assumption); (case e => exact rfl))
  | ((refine' Exists.intro _ (Exists.intro _ (Exists.intro _ (Exists.intro _ (And.intro ?e (And.intro ?hm (And.intro ?cl (And.intro ?na (And.intro ?l ?_))))))))); (case e => exact rfl); (case hm => walk_at "m"); (case cl => assumption); (case na => assumption); (case l => exact Nat.le_of_ble_eq_true rfl)))
local macro_rules | `(tactic| walk_at "g") => `(tactic| repeat (first | walk_at "s1" | walk_at "s2" | walk_at "sx" | walk_at "g1" | walk_at "g2"))

section
variable {P : Program} {w : World} {K : PySem.W.Frag} {mg : Str → Option Value} {base : Heap} {a : Ads}
/-- a dict, or None for an empty one -/
def DctOr (m : Mem) (x : D) (kvs : List (Key × D)) : Prop := DctIn m x kvs ∨ (x = .non ∧ kvs = [])
theorem DctOr.app {m r : Mem} {x : D} {kvs : List (Key × D)} (h : DctOr m x kvs) : DctOr (m ++ r) x kvs := h.imp DctIn.app id
theorem DctIn.notNon {m : Mem} {x : D} {kvs : List (Key × D)} (h : DctIn m x kvs) : x.isNon = false := by
  rcases h with rfl | ⟨p, rfl, _⟩ <;> rfl
/-- what a rule keeps of its parts -/
def nK (k : List (Str × Str)) : List (Str × Str) := (srtS (k.map (·.1))).map fun n => (n, get k n "")
def nR (r : List (Str × Int)) : List (Str × Int) := ((srtS (r.map (·.1))).filter fun n => !decide (get r n 0 = 0)).map fun n => (n, get r n 0)
abbrev ruleOf (C : Addr) (e : List Str) (k : List (Str × Str)) (r : List (Str × Int)) : D := ruleD C (srtS e) (nK k) (nR r)
def F_rinit (C iN dN : Addr) : FX := fun ds m Q R => ∃ (m0 : Mem) (p : Addr) (xe xk xr : D) (e : List Str) (k : List (Str × Str)) (r : List (Str × Int)), ds = [.adr p, xe, xk, xr] ∧ m = m0 ++ [(p, .ins C [])] ∧ SeqT m0 xe (e.map .str) ∧ DctOr m0 xk (k.map kkD) ∧ DctOr m0 xr (r.map rrD) ∧ Prts e k r ∧
  (∀ w, badF e k r = some w → R iN (.str w) m) ∧ (badF e k r = none → ∀ w, dupF e = some w → R dN (.str w) m) ∧ (badF e k r = none → dupF e = none → ∀ fs, ruleOf C e k r = .ins C fs → Q .non (m0 ++ [(p, .ins C fs)]))
theorem okx_Rule___init__ (T : Txt K mg a) : DefX P w K mg base 6 a.f_Rule___init__ ["self", "early", "keyed", "ranks"] (FXn 4 (F_rinit a.c_Rule a.c_InvalidName a.c_DoubleName)) := by
  have nd := sc_Rule___init__.nd
  have CX_check_rule := okx_check_rule (P := P) (w := w) (base := base) T
  refine defOkX T.h_Rule___init__ sc_Rule___init__ (fun _ _ _ _ h => h.1) (fun W cdv A outer s H E hr tkW own => ⟨_, (pss_cons (ps_set (i := 4) nd rfl (Or.inr rfl) (pe_ifExp (pt_cmpR op_isN2 (pv 2) pe_non (nomark _)) pe_dnewK (pv 2)))
    (pss_cons (ps_set (i := 5) nd rfl (Or.inr rfl) (pe_ifExp (pt_cmpR op_isN2 (pv 3) pe_non (nomark _)) pe_dnewK (pv 3)))
    (pss_cons (ps_expr (kx_funX K rfl CX_check_rule T.kb_check_rule_3 (hr.mono (by decide)) rfl T.g_check_rule T.k_check_rule (pa_cons (pv 1) (pa_cons (pv 4) (pa_cons (pv 5) pa_nil))) pk_nil tkW))
    (pss_cons (kx_set K rfl (pv 0) (pe_callB (kx_sorted K rfl rfl) (by rfl) T.n_sorted (by decide +kernel) (pa_cons (pv 1) pa_nil)))
    (pss_cons (kx_set K rfl (pv 0) (pe_lc (own := [("name", 6)]) (g := (gName 6)) (tt := tYes) rfl nd (kx_pi K rfl (pe_callB (kx_sorted K rfl rfl) (by rfl) T.n_sorted (by decide +kernel) (pa_cons (pv 4) pa_nil))) (blkOk_by (own := [("name", 6)]) (N := N_Rule___init__) (sc := defScope s_Rule___init__) (by decide +kernel)) (fun _ _ _ _ _ => (pg_name (i := 6) nd rfl (by first | exact Or.inl rfl | exact Or.inr rfl))) (fun _ _ _ _ _ => pts_nil) (fun _ _ _ _ _ => (pe_tup (pa_cons (pv 6) (pa_cons (pe_ix (kx_ix K rfl hr.units) (pv 4) (pv 6) (fun _ _ => rfl)) pa_nil))))))
    (pss_one (kx_set K rfl (pv 0) (pe_lc (own := [("name", 6)]) (g := (gName 6)) rfl nd (kx_pi K rfl (pe_callB (kx_sorted K rfl rfl) (by rfl) T.n_sorted (by decide +kernel) (pa_cons (pv 5) pa_nil))) (blkOk_by (own := [("name", 6)]) (N := N_Rule___init__) (sc := defScope s_Rule___init__) (by decide +kernel)) (fun _ _ _ _ _ => (pg_name (i := 6) nd rfl (by first | exact Or.inl rfl | exact Or.inr rfl))) (fun _ _ _ _ _ => (pts_one (pt_cmpR (kx_neU K rfl hr.units) (pe_ix (kx_ix K rfl hr.units) (pv 5) (pv 6) (fun _ _ => rfl)) pe_int (nomark _)))) (fun _ _ _ _ _ => (pe_tup (pa_cons (pv 6) (pa_cons (pe_ix (kx_ix K rfl hr.units) (pv 5) (pv 6) (fun _ _ => rfl)) pa_nil)))))))))))), rfl⟩) (fun ds m Q R h => ?_)
  replace h := h.2
  clear nd
  have cl := T.cl_Rule
  have na1 := T.na_Rule__early
  have na2 := T.na_Rule__keyed
  have na3 := T.na_Rule__ranks
  obtain ⟨m0, p, xe, xk, xr, e, k, r, rfl, rfl, he, hk, hr, ok, r1, r2, q⟩ := h
  have el := ok.el
  have kl := ok.kl
  have rl := ok.rl
  refine swx_seqJ (fun δ' m' => ∃ d, DctIn m0 d (k.map kkD) ∧ δ' = [some (.adr p), some xe, some xk, some xr, some d, none, none] ∧ m' = m0 ++ [(p, .ins a.c_Rule [])]) ?_ ?_
  · rcases hk with hk | ⟨rfl, ek⟩
    · walk_at "g"
      rw [hk.notNon, if_neg Bool.false_ne_true]
      walk_at "g"
      exact ⟨xk, hk, rfl, rfl⟩
    · walk_at "g"
      refine iteB (fun _ => ?_) (fun h => by cases h)
      refine ew_dnew ?_
      exact ⟨_, by rw [ek]; exact .of, rfl, rfl⟩
  rintro δ' m' ⟨xk', hk', rfl, rfl⟩
  refine swx_seqJ (fun δ' m' => ∃ d, DctIn m0 d (r.map rrD) ∧ δ' = [some (.adr p), some xe, some xk, some xr, some xk', some d, none] ∧ m' = m0 ++ [(p, .ins a.c_Rule [])]) ?_ ?_
  · rcases hr with hr | ⟨rfl, er⟩
    · walk_at "g"
      rw [hr.notNon, if_neg Bool.false_ne_true]
      walk_at "g"
      exact ⟨xr, hr, rfl, rfl⟩
    · walk_at "g"
      refine iteB (fun _ => ?_) (fun h => by cases h)
      refine ew_dnew ?_
      exact ⟨_, by rw [er]; exact .of, rfl, rfl⟩
  rintro δ' m' ⟨xr', hr', rfl, rfl⟩
  walk_at "g"
  refine ⟨rfl, rfl, rfl, xe, xk', xr', e, k, r, rfl, he.app, hk'.app, hr'.app, ok, r1, r2, fun hb hd => ?_⟩
  have q := q hb hd
  walk_at "g"
  refine cT_sort he.app (by omega) ?_
  walk_at "g"
  refine ew_lcF (tame_name (by decide)) (iw_any ?_)
  walk_at "g"
  refine cD_sort hk'.app (fst_k k) (by rw [List.length_map]; omega) ?_
  refine ⟨_, .inl rfl, Str, srtS (k.map (·.1)), D.str, fun n => kpD (n, get k n ""), rfl, le_sz (by rw [srt_len, List.length_map]; omega), ?_, ?_⟩
  · intro n acc z hn
    walk_at "g"
    refine ⟨rfl, ?_⟩
    walk_at "g"
    refine oD_ix hk'.app.app (val_k (srt_mem.mp hn)) ?_
    walk_at "g"
    exact ⟨rfl, rfl⟩
  walk_at "g"
  refine ew_lcP (tame_name (by decide)) (iw_any ?_)
  walk_at "g"
  refine cD_sort hr'.app (fst_r r) (by rw [List.length_map]; omega) ?_
  refine ⟨_, .inl rfl, Str, srtS (r.map (·.1)), D.str, fun n => rpD (n, get r n 0), fun n => !decide (get r n 0 = 0), rfl, le_sz (by rw [srt_len, List.length_map]; omega), ?_, ?_⟩
  · intro n acc z hn
    walk_at "g"
    refine oD_ix hr'.app.app (val_r (srt_mem.mp hn)) ?_
    walk_at "g"
    refine ⟨rfl, rfl, fun _ => ?_⟩
    walk_at "g"
    refine oD_ix hr'.app.app (val_r (srt_mem.mp hn)) ?_
    walk_at "g"
    exact ⟨rfl, rfl⟩
  walk_at "g"
  refine q _ ?_
  have e1 : ((srtS (k.map (·.1))).map fun n => kpD (n, get k n "")) = (nK k).map kpD := by unfold nK; rw [List.map_map]; rfl
  have e2 : (((srtS (r.map (·.1))).filter fun n => !decide (get r n 0 = 0)).map fun n => rpD (n, get r n 0)) = (nR r).map rpD := by unfold nR; rw [List.map_map]; rfl
  unfold ruleOf ruleD
  rw [← e1, ← e2]
  rfl
theorem ok_Rule___init__ (T : Txt K mg a) : Def P w K mg base 6 a.f_Rule___init__ ["self", "early", "keyed", "ranks"] (FX.quiet (FXn 4 (F_rinit a.c_Rule a.c_InvalidName a.c_DoubleName))) := (okx_Rule___init__ (P := P) (w := w) (base := base) T).quiet

end
end DL

set_option Elab.async false
set_option linter.all false
set_option maxRecDepth 100000
set_option maxHeartbeats 4000000
set_option autoImplicit false
namespace DL
open PySem PySem.Spec PyProof.Rows L2
local macro_rules | `(tactic| walk_at "m") => `(tactic| first
  | with_reducible exact MAt.last | with_reducible exact MUp.last
  | exact MAt.zero | exact MUp.zero | exact MAt.last | exact MUp.last
  | (apply MAt.cons; walk_at "m") | (apply MUp.cons; walk_at "m")
  | (apply MAt.app; walk_at "m") | (apply MUp.app; walk_at "m")
  | assumption)
local macro_rules | `(tactic| walk_at "s1") => `(tactic| with_reducible first
  | refine sw_seq ?_ | refine sw_next ?_ | refine sw_ret ?_ | refine sw_retN ?_ | refine sw_asg ?_ | refine sw_asgG ?_ | refine sw_drop ?_ | refine sw_break ?_ | refine sw_cont ?_ | refine sw_par ?_ | refine sw_par3 ?_
  | refine tw_test ?_ | refine tw_B ?_ | refine tw_and ?_ | refine tw_or ?_ | refine tw_not ?_ | refine tw_yes ?_
  | refine ew_op ?_ | refine ew_un ?_ | refine ew_int ?_ | refine ew_non ?_ | refine ew_bl ?_ | refine ew_str ?_ | refine ew_ty ?_ | refine ew_ref ?_ | refine ew_cb ?_ | refine ew_if ?_ | refine ew_andV ?_ | refine ew_orV ?_ | refine ew_notV ?_ | refine ew_chain ?_ | refine ew_sl ?_ | refine pw_no ?_ | refine pw_part ?_
  | refine ew_call0 ?_ | refine ew_kw0 ?_
  | refine aw_nil ?_ | refine aw_cons ?_ | refine ew_bm ?_ | refine ew_bm0 ?_ | refine gs_L ?_
  | refine gs_nil ?_ | refine gs_cons ?_ | refine gw_name ?_
  | refine ow_addI ?_ | refine ow_odd ?_ | refine ow_i0 ?_ | refine ow_b0 ?_ | refine oq_eqI ?_ | refine oq_neI ?_ | refine oq_eqS ?_ | refine oq_neS ?_ | refine ow_isN ?_ | refine ow_notN ?_ | refine uw_neg ?_ | refine cw_int ?_ | refine cw_intB ?_ | refine cw_abs ?_ | refine cw_mx2 ?_ | refine cw_mn2 ?_ | refine cw_lenL ?_ | refine cw_lenR ?_ | refine cw_listL ?_ | refine cw_listT ?_ | refine lw_L ?_ | refine ew_revL ?_)
local macro_rules | `(tactic| walk_at "s2") => `(tactic| first
  | ((with_reducible refine' ew_var ?hv ?_); (case hv => exact rfl))
  | ((with_reducible refine' oi_M ?hm ?hi ?_); (case hm => walk_at "m"); (case hi => exact rfl))
  | ((with_reducible refine' ow_ixT ?hi ?_); (case hi => exact rfl))
  | ((with_reducible refine' cl_M ?hm ?_); (case hm => walk_at "m"))
  | ((with_reducible refine' ci_M ?hm ?_); (case hm => walk_at "m"))
  | ((with_reducible refine' ma_app ?hm ?ll ?_); (case hm => walk_at "m"); (case ll => walk_at "l"))
  | ((with_reducible refine' And.intro (ty_A ?hm) ?_); (case hm => walk_at "m"))
  | (with_reducible refine' Exists.intro _ (And.intro ?he ?_); (case he => exact rfl))
  | (with_reducible refine' Exists.intro _ (Exists.intro _ (And.intro ?he ?_)); (case he => exact rfl))
  | (with_reducible refine' Exists.intro _ (Exists.intro _ (Exists.intro _ (And.intro ?he ?_))); (case he => exact rfl))
  | ((with_reducible refine' Exists.intro _ (Exists.intro _ (Exists.intro _ (Exists.intro _ (Exists.intro _ (And.intro ?e1 (And.intro ?e2 (And.intro ?hm (And.intro ?hi ?_))))))))); (case e1 => exact rfl); (case e2 => exact rfl); (case hm => walk_at "m"); (case hi => exact rfl)))
local macro_rules | `(tactic| walk_at "l") => `(tactic| first | assumption | exact lt_sz (by omega) | exact lt_sz (by simp only [List.length_map, List.length_append, List.length_cons, List.length_nil, List.length_take, List.length_drop, List.length_range]; omega))
local macro_rules | `(tactic| walk_at "s") => `(tactic| repeat (first | walk_at "s1" | walk_at "s2"))
local macro_rules | `(tactic| walk_at "sx") => `(tactic| with_reducible first
  | refine swx_of ?_ | refine swx_seq ?_ | refine swx_drop ?_ | refine swx_asg ?_ | refine swx_ret ?_ | refine ewx_fun ?_ | refine ewx_meth ?_ | refine ewx_make ?_ | refine ewx_sub ?_)
local macro_rules | `(tactic| walk_at "s") => `(tactic| repeat (first | walk_at "s1" | walk_at "s2" | walk_at "sx"))
local macro_rules | `(tactic| walk_at "g1") => `(tactic| with_reducible first
  | refine ew_tup2 ?_ | refine ew_tup3 ?_ | refine ew_tup4 ?_ | refine ew_fldI ?_ | refine sw_fldA ?_ | refine ew_dget1 ?_ | refine ew_dget2 ?_ | refine ow_isN ?_)
local macro_rules | `(tactic| walk_at "g2") => `(tactic| first
  | ((with_reducible refine' gw_tup ?e ?_); (case e => exact rfl))
  | ((with_reducible refine' oi_L ?e ?_); (case e => exact rfl))
  | ((refine' Exists.intro _ (And.intro ?cl (And.intro ?na (And.intro ?e ?_)))); (case cl => assumption); (case na => assumption); (case e => exact rfl))
  | ((refine' Exists.intro _ (Exists.intro _ (Exists.intro _ (Exists.intro _ (And.intro ?e (And.intro ?hm (And.intro ?cl (And.intro ?na (And.intro ?l ?_))))))))); (case e => exact rfl); (case hm => walk_at "m"); (case cl => assumption); (case na => assumption); (case l => exact Nat.le_of_ble_eq_true rfl)))
local macro_rules | `(tactic| walk_at "g") => `(tactic| repeat (first | walk_at "s1" | walk_at "s2" | walk_at "sx" | walk_at "g1" | walk_at "g2"))

section
variable {P : Program} {w : World} {K : PySem.W.Frag} {mg : Str → Option Value} {base : Heap} {a : Ads}
/-- the parts of a rule that there is -/
structure PlanOk (e : List Str) (k : List (Str × Str)) (r : List (Str × Int)) : Prop where
  en : ∀ x ∈ e, nameB x = true
  ed : e.Nodup
  kn : ∀ p ∈ k, nameB p.1 = true ∧ nameB p.2 = true
  kd : (k.map (·.1)).Nodup
  rn : ∀ p ∈ r, nameB p.1 = true ∧ p.2.natAbs < 10 ^ 25
  rd : (r.map (·.1)).Nodup
  el : e.length ≤ 20
  kl : k.length ≤ 20
  rl : r.length ≤ 20
theorem nK_perm {k : List (Str × Str)} (nd : (k.map (·.1)).Nodup) : (nK k).Perm k := get_perm nd (srtS_perm _)
theorem nK_fst (k : List (Str × Str)) : (nK k).map (·.1) = srtS (k.map (·.1)) := by
  unfold nK
  rw [List.map_map]
  conv => rhs; rw [← List.map_id (srtS (k.map (·.1)))]
  rfl
theorem nR_perm {r : List (Str × Int)} (nd : (r.map (·.1)).Nodup) : (nR r).Perm (r.filter fun p => !decide (p.2 = 0)) := by
  have h := (get_perm (d := (0 : Int)) nd (srtS_perm (r.map (·.1)))).filter fun p => !decide (p.2 = 0)
  rwa [List.filter_map] at h
theorem nR_srt (r : List (Str × Int)) : SortS ((nR r).map (·.1)) := by
  have e : (nR r).map (·.1) = (srtS (r.map (·.1))).filter fun n => !decide (get r n 0 = 0) := by
    unfold nR
    rw [List.map_map]
    conv => rhs; rw [← List.map_id ((srtS (r.map (·.1))).filter fun n => !decide (get r n 0 = 0))]
    rfl
  rw [e]
  exact List.Pairwise.filter _ (srtS_srt _)
theorem nK_of {k k' : List (Str × Str)} (nd : (k.map (·.1)).Nodup) (p : k'.Perm k) : nK k' = nK k := by
  have nd' : (k'.map (·.1)).Nodup := (p.map _).nodup_iff.mpr nd
  refine SortS.pairs ?_ ?_ ?_ ((nK_perm nd').trans (p.trans (nK_perm nd).symm))
  · rw [nK_fst]; exact srtS_srt _
  · rw [nK_fst]; exact srtS_srt _
  · exact ((nK_perm nd').map _).nodup_iff.mpr nd'
theorem nR_nd {r : List (Str × Int)} (nd : (r.map (·.1)).Nodup) : ((nR r).map (·.1)).Nodup := ((nR_perm nd).map _).nodup_iff.mpr (nd.sublist (List.filter_sublist.map _))
theorem nR_of {r r' : List (Str × Int)} (nd : (r.map (·.1)).Nodup) (nd' : (r'.map (·.1)).Nodup) (p : (r'.filter fun p => !decide (p.2 = 0)).Perm (r.filter fun p => !decide (p.2 = 0))) : nR r' = nR r :=
  SortS.pairs (nR_srt _) (nR_srt _) (nR_nd nd') ((nR_perm nd').trans (p.trans (nR_perm nd).symm))
theorem PlanOk.norm {e k r} (o : PlanOk e k r) : PlanOk (srtS e) (nK k) (nR r) := by
  have kp := nK_perm o.kd
  have rp := nR_perm o.rd
  refine ⟨fun x hx => o.en x (srt_mem.mp hx), (srtS_perm e).nodup_iff.mpr o.ed, fun p hp => o.kn p (kp.mem_iff.mp hp), (kp.map _).nodup_iff.mpr o.kd, fun p hp => o.rn p (List.mem_filter.mp (rp.mem_iff.mp hp)).1, nR_nd o.rd, by rw [srt_len]; exact o.el, by rw [kp.length_eq]; exact o.kl, ?_⟩
  rw [rp.length_eq]
  exact Nat.le_trans (List.length_filter_le _ _) o.rl
theorem PlanOk.prts {e k r} (o : PlanOk e k r) : Prts e k r := by
  have el := o.el
  have kl := o.kl
  have rl := o.rl
  exact ⟨by omega, by omega, by omega, fun x hx => by have := nameB_len (o.en x hx); omega, fun p hp => by have h1 := nameB_len (o.kn p hp).1; have h2 := nameB_len (o.kn p hp).2; omega, fun p hp => by have := nameB_len (o.rn p hp).1; omega⟩
theorem line_all {e k r} (h1 : ∀ x ∈ e, nameB x = true) (h2 : ∀ p ∈ k, nameB p.1 = true ∧ nameB p.2 = true) (h3 : ∀ p ∈ r, nameB (p : Str × Int).1 = true) : badF e k r = none := by
  unfold badF
  rw [List.find?_eq_none]
  intro w hw
  have : nameB w = true := by
    unfold lineF at hw
    rcases List.mem_append.mp hw with hw | hw
    · rcases List.mem_append.mp hw with hw | hw
      · rcases List.mem_append.mp hw with hw | hw
        · exact h1 w hw
        · obtain ⟨p, hp, rfl⟩ := List.mem_map.mp (srt_mem.mp hw)
          exact (h2 p hp).1
      · obtain ⟨n, hn, rfl⟩ := List.mem_map.mp hw
        obtain ⟨v, e1, hv⟩ := lk_mem (srt_mem.mp hn)
        unfold get
        rw [e1]
        exact (h2 _ hv).2
    · obtain ⟨p, hp, rfl⟩ := List.mem_map.mp (srt_mem.mp hw)
      exact h3 p hp
  simpa using this
theorem dupA_none : ∀ {l seen : List Str}, (seen ++ l).Nodup → dupA seen l = none
  | [], _, _ => rfl
  | x :: l, seen, h => by
    have hn : x ∉ seen := fun hm => (List.nodup_append.mp h).2.2 x hm x (by simp) rfl
    rw [dupA, if_neg hn]
    refine dupA_none ?_
    rw [List.append_assoc]
    exact h
theorem PlanOk.bad {e k r} (o : PlanOk e k r) : badF e k r = none := line_all o.en o.kn fun p hp => (o.rn p hp).1
theorem PlanOk.dup {e k r} (o : PlanOk e k r) : dupF e = none := dupA_none (by rw [List.nil_append]; exact o.ed)
theorem use_rinit {C iN dN : Addr} {m0 : Mem} {p : Addr} {xe xk xr : D} {e k r} {Q : D → Mem → Prop} (he : SeqT m0 xe (e.map .str)) (hk : DctOr m0 xk (k.map kkD)) (hr : DctOr m0 xr (r.map rrD)) (o : PlanOk e k r) (q : ∀ fs, ruleOf C e k r = .ins C fs → Q .non (m0 ++ [(p, .ins C fs)])) :
    FX.quiet (FXn 4 (F_rinit C iN dN)) [.adr p, xe, xk, xr] (m0 ++ [(p, .ins C [])]) Q := ⟨rfl, m0, p, xe, xk, xr, e, k, r, rfl, rfl, he, hk, hr, o.prts, (fun w h => by rw [o.bad] at h; cases h), (fun _ w h => by rw [o.dup] at h; cases h), fun _ _ => q⟩
/-- what a call of the class asks, and gives -/
theorem use_rule {C iN dN : Addr} {m : Mem} {p : Addr} {xe xk xr : D} {e k r} {Q : D → Mem → Prop} (he : SeqT m xe (e.map .str)) (hk : DctOr m xk (k.map kkD)) (hr : DctOr m xr (r.map rrD)) (o : PlanOk e k r) (q : Q (ruleOf C e k r) m) :
    FX.quiet (FXn 4 (F_rinit C iN dN)) [.adr p, xe, xk, xr] (m ++ [(p, .ins C [])]) fun d m2 => d = .non ∧ ∃ (m3 : Mem) (fs : List (Str × D)), m2 = m3 ++ [(p, .ins C fs)] ∧ Q (.ins C fs) m3 :=
  use_rinit he hk hr o fun fs hfs => ⟨rfl, m, fs, rfl, by rw [← hfs]; exact q⟩
theorem kps_nb {K : List (Str × Str)} (h : ∀ p ∈ K, nameB p.1 = true ∧ nameB p.2 = true) : (D.lst (K.map kpD)).nb 2 = true := by
  show (K.map kpD).all (D.nb 1) = true
  rw [List.all_eq_true]
  intro x hx
  obtain ⟨p, hp, rfl⟩ := List.mem_map.mp hx
  show (PyData.strOk p.1 && (PyData.strOk p.2 && true)) = true
  rw [name_ok (h p hp).1, name_ok (h p hp).2]
  rfl
theorem rps_nb {N : List (Str × Int)} (h : ∀ p ∈ N, nameB p.1 = true ∧ p.2.natAbs < 10 ^ 25) : (D.lst (N.map rpD)).nb 2 = true := by
  show (N.map rpD).all (D.nb 1) = true
  rw [List.all_eq_true]
  intro x hx
  obtain ⟨p, hp, rfl⟩ := List.mem_map.mp hx
  show (PyData.strOk p.1 && (true && true)) = true
  rw [name_ok (h p hp).1]
  rfl
theorem kpD_inj (x y : Str × Str) (h : kpD x = kpD y) : x = y := by
  obtain ⟨a, b⟩ := x
  obtain ⟨c, d⟩ := y
  injection h with h
  injection h with h1 h2
  injection h1 with h1
  injection h2 with h2
  injection h2 with h2
  have e1 : a = c := h1
  have e2 : b = d := h2
  rw [e1, e2]
theorem rpD_inj (x y : Str × Int) (h : rpD x = rpD y) : x = y := by
  obtain ⟨a, b⟩ := x
  obtain ⟨c, d⟩ := y
  injection h with h
  injection h with h1 h2
  injection h1 with h1
  injection h2 with h2
  injection h2 with h2
  have e1 : a = c := h1
  have e2 : b = d := h2
  rw [e1, e2]
theorem nd_keys {α : Type} {l : List (Str × α)} (nd : (l.map (·.1)).Nodup) : (l.map fun p => (Sum.inr p.1 : Key)).Nodup := by
  have e : (l.map fun p => (Sum.inr p.1 : Key)) = (l.map (·.1)).map fun x => Sum.inr x := by rw [List.map_map]; rfl
  rw [e]
  exact nd_map (fun a b hab => by injection hab) nd
theorem dict_k {k : List (Str × Str)} {m : Mem} {Q : D → Mem → Prop} (nd : (k.map (·.1)).Nodup) (q : Q (.dic (k.map kkD)) m) : CW K (rDictP K) [.lst (k.map kpD)] m Q := by
  have ek : k.map kpD = (k.map kkD).map pairKD := by rw [List.map_map]; rfl
  rw [ek]
  exact cw_dictP (by rw [List.map_map]; exact nd_keys nd) q
theorem dict_r {r : List (Str × Int)} {m : Mem} {Q : D → Mem → Prop} (nd : (r.map (·.1)).Nodup) (q : Q (.dic (r.map rrD)) m) : CW K (rDictP K) [.lst (r.map rpD)] m Q := by
  have ek : r.map rpD = (r.map rrD).map pairKD := by rw [List.map_map]; rfl
  rw [ek]
  exact cw_dictP (by rw [List.map_map]; exact nd_keys nd) q

end
end DL

set_option Elab.async false
set_option linter.all false
set_option maxRecDepth 100000
set_option maxHeartbeats 4000000
set_option autoImplicit false
namespace DL
open PySem PySem.Spec PyProof.Rows L2
local macro_rules | `(tactic| walk_at "m") => `(tactic| first
  | with_reducible exact MAt.last | with_reducible exact MUp.last
  | exact MAt.zero | exact MUp.zero | exact MAt.last | exact MUp.last
  | (apply MAt.cons; walk_at "m") | (apply MUp.cons; walk_at "m")
  | (apply MAt.app; walk_at "m") | (apply MUp.app; walk_at "m")
  | assumption)
local macro_rules | `(tactic| walk_at "s1") => `(tactic| with_reducible first
  | refine sw_seq ?_ | refine sw_next ?_ | refine sw_ret ?_ | refine sw_retN ?_ | refine sw_asg ?_ | refine sw_asgG ?_ | refine sw_drop ?_ | refine sw_break ?_ | refine sw_cont ?_ | refine sw_par ?_ | refine sw_par3 ?_
  | refine tw_test ?_ | refine tw_B ?_ | refine tw_and ?_ | refine tw_or ?_ | refine tw_not ?_ | refine tw_yes ?_
  | refine ew_op ?_ | refine ew_un ?_ | refine ew_int ?_ | refine ew_non ?_ | refine ew_bl ?_ | refine ew_str ?_ | refine ew_ty ?_ | refine ew_ref ?_ | refine ew_cb ?_ | refine ew_if ?_ | refine ew_andV ?_ | refine ew_orV ?_ | refine ew_notV ?_ | refine ew_chain ?_ | refine ew_sl ?_ | refine pw_no ?_ | refine pw_part ?_
  | refine ew_call0 ?_ | refine ew_kw0 ?_
  | refine aw_nil ?_ | refine aw_cons ?_ | refine ew_bm ?_ | refine ew_bm0 ?_ | refine gs_L ?_
  | refine gs_nil ?_ | refine gs_cons ?_ | refine gw_name ?_
  | refine ow_addI ?_ | refine ow_odd ?_ | refine ow_i0 ?_ | refine ow_b0 ?_ | refine oq_eqI ?_ | refine oq_neI ?_ | refine oq_eqS ?_ | refine oq_neS ?_ | refine ow_isN ?_ | refine ow_notN ?_ | refine uw_neg ?_ | refine cw_int ?_ | refine cw_intB ?_ | refine cw_abs ?_ | refine cw_mx2 ?_ | refine cw_mn2 ?_ | refine cw_lenL ?_ | refine cw_lenR ?_ | refine cw_listL ?_ | refine cw_listT ?_ | refine lw_L ?_ | refine ew_revL ?_)
local macro_rules | `(tactic| walk_at "s2") => `(tactic| first
  | ((with_reducible refine' ew_var ?hv ?_); (case hv => exact rfl))
  | ((with_reducible refine' oi_M ?hm ?hi ?_); (case hm => walk_at "m"); (case hi => exact rfl))
  | ((with_reducible refine' ow_ixT ?hi ?_); (case hi => exact rfl))
  | ((with_reducible refine' cl_M ?hm ?_); (case hm => walk_at "m"))
  | ((with_reducible refine' ci_M ?hm ?_); (case hm => walk_at "m"))
  | ((with_reducible refine' ma_app ?hm ?ll ?_); (case hm => walk_at "m"); (case ll => walk_at "l"))
  | ((with_reducible refine' And.intro (ty_A ?hm) ?_); (case hm => walk_at "m"))
  | (with_reducible refine' Exists.intro _ (And.intro ?he ?_); (case he => exact rfl))
  | (with_reducible refine' Exists.intro _ (Exists.intro _ (And.intro ?he ?_)); (case he => exact rfl))
  | (with_reducible refine' Exists.intro _ (Exists.intro _ (Exists.intro _ (And.intro ?he ?_))); (case he => exact rfl))
  | ((with_reducible refine' Exists.intro _ (Exists.intro _ (Exists.intro _ (Exists.intro _ (Exists.intro _ (And.intro ?e1 (And.intro ?e2 (And.intro ?hm (And.intro ?hi ?_))))))))); (case e1 => exact rfl); (case e2 => exact rfl); (case hm => walk_at "m"); (case hi => exact rfl)))
local macro_rules | `(tactic| walk_at "l") => `(tactic| first | assumption | exact lt_sz (by omega) | exact lt_sz (by simp only [List.length_map, List.length_append, List.length_cons, List.length_nil, List.length_take, List.length_drop, List.length_range]; omega))
local macro_rules | `(tactic| walk_at "s") => `(tactic| repeat (first | walk_at "s1" | walk_at "s2"))
local macro_rules | `(tactic| walk_at "sx") => `(tactic| with_reducible first
  | refine swx_of ?_ | refine swx_seq ?_ | refine swx_drop ?_ | refine swx_asg ?_ | refine swx_ret ?_ | refine ewx_fun ?_ | refine ewx_meth ?_ | refine ewx_make ?_ | refine ewx_sub ?_)
local macro_rules | `(tactic| walk_at "s") => `(tactic| repeat (first | walk_at "s1" | walk_at "s2" | walk_at "sx"))
local macro_rules | `(tactic| walk_at "g1") => `(tactic| with_reducible first
  | refine ew_tup2 ?_ | refine ew_tup3 ?_ | refine ew_tup4 ?_ | refine ew_fldI ?_ | refine sw_fldA ?_ | refine ew_dget1 ?_ | refine ew_dget2 ?_ | refine ow_isN ?_)
local macro_rules | `(tactic| walk_at "g2") => `(tactic| first
  | ((with_reducible refine' gw_tup ?e ?_); (case e => exact rfl))
  | ((with_reducible refine' oi_L ?e ?_); (case e => exact rfl))
  | ((refine' Exists.intro _ (And.intro ?cl (And.intro ?na (And.intro ?e ?_)))); (case cl => assumption); (case na => assumption); (case e => exact rfl))
  | ((refine' Exists.intro _ (Exists.intro _ (Exists.intro _ (Exists.intro _ (And.intro ?e (And.intro ?hm (And.intro ?cl (And.intro ?na (And.intro ?l ?_))))))))); (case e => exact rfl); (case hm => walk_at "m"); (case cl => assumption); (case na => assumption); (case l => exact Nat.le_of_ble_eq_true rfl)))
local macro_rules | `(tactic| walk_at "g") => `(tactic| repeat (first | walk_at "s1" | walk_at "s2" | walk_at "sx" | walk_at "g1" | walk_at "g2"))

section
variable {P : Program} {w : World} {K : PySem.W.Frag} {mg : Str → Option Value} {base : Heap} {a : Ads}
def F_early (C : Addr) : FS := fun ds m Q => ∃ E K N, ds = [ruleD C E K N] ∧ Q (.lst (E.map .str)) m
theorem ok_Rule_early (T : Txt K mg a) : Def P w K mg base 2 a.f_Rule_early ["self"] (FSn 1 (F_early a.c_Rule)) := by
  have nd := sc_Rule_early.nd
  refine defOk T.h_Rule_early sc_Rule_early (fun _ _ _ h => h.1) (fun cdv A outer s H E hr => by exact (pss_one (ps_ret (pe_callTy (kx_list K rfl) (by rfl) T.n_list (by decide +kernel) (pa_cons (kx_fld K rfl (pv 0)) pa_nil))))) (fun ds m Q h => ?_)
  replace h := h.2
  clear nd
  have cl := T.cl_Rule
  have na1 := T.na_Rule__early
  obtain ⟨E, K, N, rfl, q⟩ := h
  walk_at "g"
  exact q
def F_keyed (C : Addr) : FS := fun ds m Q => ∃ E K N, ds = [ruleD C E K N] ∧ Q (.lst (K.map kpD)) m
theorem ok_Rule_keyed (T : Txt K mg a) : Def P w K mg base 2 a.f_Rule_keyed ["self"] (FSn 1 (F_keyed a.c_Rule)) := by
  have nd := sc_Rule_keyed.nd
  refine defOk T.h_Rule_keyed sc_Rule_keyed (fun _ _ _ h => h.1) (fun cdv A outer s H E hr => by exact (pss_one (ps_ret (pe_callTy (kx_list K rfl) (by rfl) T.n_list (by decide +kernel) (pa_cons (kx_fld K rfl (pv 0)) pa_nil))))) (fun ds m Q h => ?_)
  replace h := h.2
  clear nd
  have cl := T.cl_Rule
  have na1 := T.na_Rule__keyed
  obtain ⟨E, K, N, rfl, q⟩ := h
  walk_at "g"
  exact q
def F_ranks (C : Addr) : FS := fun ds m Q => ∃ E K N, ds = [ruleD C E K N] ∧ Q (.lst (N.map rpD)) m
theorem ok_Rule_ranks (T : Txt K mg a) : Def P w K mg base 2 a.f_Rule_ranks ["self"] (FSn 1 (F_ranks a.c_Rule)) := by
  have nd := sc_Rule_ranks.nd
  refine defOk T.h_Rule_ranks sc_Rule_ranks (fun _ _ _ h => h.1) (fun cdv A outer s H E hr => by exact (pss_one (ps_ret (pe_callTy (kx_list K rfl) (by rfl) T.n_list (by decide +kernel) (pa_cons (kx_fld K rfl (pv 0)) pa_nil))))) (fun ds m Q h => ?_)
  replace h := h.2
  clear nd
  have cl := T.cl_Rule
  have na1 := T.na_Rule__ranks
  obtain ⟨E, K, N, rfl, q⟩ := h
  walk_at "g"
  exact q

end
end DL

set_option Elab.async false
set_option linter.all false
set_option maxRecDepth 100000
set_option maxHeartbeats 4000000
set_option autoImplicit false
namespace DL
open PySem PySem.Spec PyProof.Rows L2
local macro_rules | `(tactic| walk_at "m") => `(tactic| first
  | with_reducible exact MAt.last | with_reducible exact MUp.last
  | exact MAt.zero | exact MUp.zero | exact MAt.last | exact MUp.last
  | (apply MAt.cons; walk_at "m") | (apply MUp.cons; walk_at "m")
  | (apply MAt.app; walk_at "m") | (apply MUp.app; walk_at "m")
  | assumption)
local macro_rules | `(tactic| walk_at "s1") => `(tactic| with_reducible first
  | refine sw_seq ?_ | refine sw_next ?_ | refine sw_ret ?_ | refine sw_retN ?_ | refine sw_asg ?_ | refine sw_asgG ?_ | refine sw_drop ?_ | refine sw_break ?_ | refine sw_cont ?_ | refine sw_par ?_ | refine sw_par3 ?_
  | refine tw_test ?_ | refine tw_B ?_ | refine tw_and ?_ | refine tw_or ?_ | refine tw_not ?_ | refine tw_yes ?_
  | refine ew_op ?_ | refine ew_un ?_ | refine ew_int ?_ | refine ew_non ?_ | refine ew_bl ?_ | refine ew_str ?_ | refine ew_ty ?_ | refine ew_ref ?_ | refine ew_cb ?_ | refine ew_if ?_ | refine ew_andV ?_ | refine ew_orV ?_ | refine ew_notV ?_ | refine ew_chain ?_ | refine ew_sl ?_ | refine pw_no ?_ | refine pw_part ?_
  | refine ew_call0 ?_ | refine ew_kw0 ?_
  | refine aw_nil ?_ | refine aw_cons ?_ | refine ew_bm ?_ | refine ew_bm0 ?_ | refine gs_L ?_
  | refine gs_nil ?_ | refine gs_cons ?_ | refine gw_name ?_
  | refine ow_addI ?_ | refine ow_odd ?_ | refine ow_i0 ?_ | refine ow_b0 ?_ | refine oq_eqI ?_ | refine oq_neI ?_ | refine oq_eqS ?_ | refine oq_neS ?_ | refine ow_isN ?_ | refine ow_notN ?_ | refine uw_neg ?_ | refine cw_int ?_ | refine cw_intB ?_ | refine cw_abs ?_ | refine cw_mx2 ?_ | refine cw_mn2 ?_ | refine cw_lenL ?_ | refine cw_lenR ?_ | refine cw_listL ?_ | refine cw_listT ?_ | refine lw_L ?_ | refine ew_revL ?_)
local macro_rules | `(tactic| walk_at "s2") => `(tactic| first
  | ((with_reducible refine' ew_var ?hv ?_); (case hv => exact rfl))
  | ((with_reducible refine' oi_M ?hm ?hi ?_); (case hm => walk_at "m"); (case hi => exact rfl))
  | ((with_reducible refine' ow_ixT ?hi ?_); (case hi => exact rfl))
  | ((with_reducible refine' cl_M ?hm ?_); (case hm => walk_at "m"))
  | ((with_reducible refine' ci_M ?hm ?_); (case hm => walk_at "m"))
  | ((with_reducible refine' ma_app ?hm ?ll ?_); (case hm => walk_at "m"); (case ll => walk_at "l"))
  | ((with_reducible refine' And.intro (ty_A ?hm) ?_); (case hm => walk_at "m"))
  | (with_reducible refine' Exists.intro _ (And.intro ?he ?_); (case he => exact rfl))
  | (with_reducible refine' Exists.intro _ (Exists.intro _ (And.intro ?he ?_)); (case he => exact rfl))
  | (with_reducible refine' Exists.intro _ (Exists.intro _ (Exists.intro _ (And.intro ?he ?_))); (case he => exact rfl))
  | ((with_reducible refine' Exists.intro _ (Exists.intro _ (Exists.intro _ (Exists.intro _ (Exists.intro _ (And.intro ?e1 (And.intro ?e2 (And.intro ?hm (And.intro ?hi ?_))))))))); (case e1 => exact rfl); (case e2 => exact rfl); (case hm => walk_at "m"); (case hi => exact rfl)))
local macro_rules | `(tactic| walk_at "l") => `(tactic| first | assumption | exact lt_sz (by omega) | exact lt_sz (by simp only [List.length_map, List.length_append, List.length_cons, List.length_nil, List.length_take, List.length_drop, List.length_range]; omega))
local macro_rules | `(tactic| walk_at "s") => `(tactic| repeat (first | walk_at "s1" | walk_at "s2"))
local macro_rules | `(tactic| walk_at "sx") => `(tactic| with_reducible first
  | refine swx_of ?_ | refine swx_seq ?_ | refine swx_drop ?_ | refine swx_asg ?_ | refine swx_ret ?_ | refine ewx_fun ?_ | refine ewx_meth ?_ | refine ewx_make ?_ | refine ewx_sub ?_)
local macro_rules | `(tactic| walk_at "s") => `(tactic| repeat (first | walk_at "s1" | walk_at "s2" | walk_at "sx"))
local macro_rules | `(tactic| walk_at "g1") => `(tactic| with_reducible first
  | refine ew_tup2 ?_ | refine ew_tup3 ?_ | refine ew_tup4 ?_ | refine ew_fldI ?_ | refine sw_fldA ?_ | refine ew_dget1 ?_ | refine ew_dget2 ?_ | refine ow_isN ?_)
local macro_rules | `(tactic| walk_at "g2") => `(tactic| first
  | ((with_reducible refine' gw_tup ?e ?_); (case e => exact rfl))
  | ((with_reducible refine' oi_L ?e ?_); (case e => exact rfl))
  | ((refine' Exists.intro _ (And.intro ?cl (And.intro ?na (And.intro ?e ?_)))); (case cl => assumption); (case na => assumption); (case e => exact rfl))
  | ((refine' Exists.intro _ (Exists.intro _ (Exists.intro _ (Exists.intro _ (And.intro ?e (And.intro ?hm (And.intro ?cl (And.intro ?na (And.intro ?l ?_))))))))); (case e => exact rfl); (case hm => walk_at "m"); (case cl => assumption); (case na => assumption); (case l => exact Nat.le_of_ble_eq_true rfl)))
local macro_rules | `(tactic| walk_at "g") => `(tactic| repeat (first | walk_at "s1" | walk_at "s2" | walk_at "sx" | walk_at "g1" | walk_at "g2"))

section
variable {P : Program} {w : World} {K : PySem.W.Frag} {mg : Str → Option Value} {base : Heap} {a : Ads}
def F_reqU (C : Addr) : FS := fun ds m Q => ∃ (E : List Str) (K1 : List (Str × Str)) (N : List (Str × Int)) (y : D), ds = [ruleD C E K1 N, y] ∧ PlanOk E K1 N ∧
  ((∃ E' K' N', y = ruleD C E' K' N' ∧ PlanOk E' K' N' ∧ ∀ b : Bool, (b = true ↔ E = E' ∧ K1 = K' ∧ N = N') → Q (.bl b) m) ∨ (OddD m y ∧ Q (.bl false) m))
theorem ok_Rule___eq__ (T : Txt K mg a) : Def P w K mg base 2 a.f_Rule___eq__ ["self", "other"] (FSn 2 (F_reqU a.c_Rule)) := by
  have nd := sc_Rule___eq__.nd
  refine defOk T.h_Rule___eq__ sc_Rule___eq__ (fun _ _ _ h => h.1) (fun cdv A outer s H E hr => by exact (pss_cons (ps_if (pt_not (pt_val (pe_callB (kx_isi K rfl) (by rfl) T.n_isinstance (by decide +kernel) (pa_cons (pv 1) (pa_cons (pe_glob (v := .ref a.c_Rule) rfl T.g_Rule rfl) pa_nil))))) (pss_one (ps_ret pe_bl)) pss_nil)
    (pss_one (ps_ret (pe_and (pe_cmpR (kx_eqU K rfl hr.units) (kx_fld K rfl (pv 0)) (kx_fld K rfl (pv 1)) (nomark _)) (pe_and (pe_cmpR (kx_eqU K rfl hr.units) (kx_fld K rfl (pv 0)) (kx_fld K rfl (pv 1)) (nomark _)) (pe_one (pe_cmpR (kx_eqU K rfl hr.units) (kx_fld K rfl (pv 0)) (kx_fld K rfl (pv 1)) (nomark _))))))))) (fun ds m Q h => ?_)
  replace h := h.2
  clear nd
  have gS := T.g_Rule
  have cl := T.cl_Rule
  have na1 := T.na_Rule__early
  have na2 := T.na_Rule__keyed
  have na3 := T.na_Rule__ranks
  have io := T.io_Rule
  have oi := T.oi_Rule
  obtain ⟨E, K1, N, y, rfl, ok, q⟩ := h
  rcases q with ⟨E', K', N', rfl, ok', q⟩ | ⟨od, q⟩
  rotate_left
  · walk_at "g"
    refine sw_if ?_
    walk_at "g"
    refine cw_isiOdd od oi ?_
    walk_at "g"
    rw [if_pos (by decide)]
    walk_at "g"
    exact q
  walk_at "g"
  refine sw_if ?_
  walk_at "g"
  refine cw_isiO cl io ?_
  walk_at "g"
  rw [if_neg (by decide)]
  walk_at "g"
  refine oq_eq 1 (strs_nb fun x hx => name_ok (ok.en x hx)) (strs_nb fun x hx => name_ok (ok'.en x hx)) fun b hb => ?_
  have hw : b = true ↔ E = E' := hb.trans ⟨fun e => by injection e with e; exact strD_inj e, fun e => by rw [e]⟩
  walk_at "g"
  refine iteB (fun e => ?_) (fun e => ?_)
  · walk_at "g"
    refine oq_eq 2 (kps_nb ok.kn) (kps_nb ok'.kn) fun c hc => ?_
    have hk : c = true ↔ K1 = K' := hc.trans ⟨fun e => by injection e with e; exact mapD_inj kpD_inj e, fun e => by rw [e]⟩
    walk_at "g"
    refine iteB (fun e2 => ?_) (fun e2 => ?_)
    · walk_at "g"
      refine oq_eq 2 (rps_nb ok.rn) (rps_nb ok'.rn) fun d hd => ?_
      have hn : d = true ↔ N = N' := hd.trans ⟨fun e => by injection e with e; exact mapD_inj rpD_inj e, fun e => by rw [e]⟩
      exact q d ⟨fun h => ⟨hw.mp e, hk.mp e2, hn.mp h⟩, fun h => hn.mpr h.2.2⟩
    · refine q false ⟨fun h => Bool.noConfusion h, fun h => ?_⟩
      rw [hk.mpr h.2.1] at e2
      cases e2
  · refine q false ⟨fun h => Bool.noConfusion h, fun h => ?_⟩
    rw [hw.mpr h.1] at e
    cases e
/-- how four comparisons are shown -/
def bothL (b : Bool) : D := .lst [.bl b, .bl b, .bl (!b), .bl (!b)]
def bothT (b : Bool) : Str := (bothL b).py.shown
theorem both_tw (b : Bool) : TwQ 1 2000 (bothL b).py := by
  refine (TwQ.list (n := 0) (B := 300) (N := 4) (xs := [.bl b, .bl b, .bl (!b), .bl (!b)]) (fun x hx => ?_) (Nat.le_refl 4)).up (Nat.le_refl _) (by omega)
  simp only [List.mem_cons, List.not_mem_nil, or_false] at hx
  rcases hx with rfl | rfl | rfl | rfl
  · exact twQ_bl b
  · exact twQ_bl b
  · exact twQ_bl _
  · exact twQ_bl _
theorem cw_both {K : PySem.W.Frag} {m : Mem} {Q : D → Mem → Prop} {b : Bool} (q : Q (.str (bothT b)) m) : CW K (rReprU K) [.lst [.bl b, .bl b, .bl (!b), .bl (!b)]] m Q :=
  cw_showU (Res.fl (n := 1) (show (bothL b).fl 1 = true by cases b <;> rfl)) (.inl ⟨_, rfl⟩) (both_tw b).shw (by decide) (le_sz (by omega)) q
def F_both (C : Addr) : FS := fun ds m Q => ∃ (E : List Str) (K1 : List (Str × Str)) (N : List (Str × Int)) (y : D), ds = [ruleD C E K1 N, y] ∧ PlanOk E K1 N ∧
  ((∃ E' K' N', y = ruleD C E' K' N' ∧ PlanOk E' K' N' ∧ ∀ b : Bool, (b = true ↔ E = E' ∧ K1 = K' ∧ N = N') → Q (.str (bothT b)) m) ∨ (OddD m y ∧ Q (.str (bothT false)) m))
theorem ok__law_both_ways (T : Txt K mg a) : DefG P w K mg base 4 a.f__law_both_ways ["first", "second"] (FSn 2 (F_both a.c_Rule)) := by
  have nd := sc__law_both_ways.nd
  have C_Rule___eq__ := ok_Rule___eq__ (P := P) (w := w) (base := base) T
  have C_Rule___eq__ := ok_Rule___eq__ (P := P) (w := w) (base := base) T
  refine defOkG T.h__law_both_ways sc__law_both_ways (fun _ _ _ h => h.1) (fun cdv A outer s H hg hr => by exact (pss_one (ps_ret (pe_callB (kx_reprU K rfl hg (h66 hr)) (by rfl) T.n_repr (by decide +kernel) (pa_cons (pe_lst (pa_cons (pe_cmpR (OpR.or (kx_ownEq K rfl T.eq_Rule C_Rule___eq__ (hr.mono (by decide))) (OpR.or (kx_oddEq (way := true) K rfl T.eq_Rule T.odd_Rule C_Rule___eq__ (hr.mono (by decide))) (kx_oddEq (way := false) K rfl T.eq_Rule T.odd_Rule C_Rule___eq__ (hr.mono (by decide))))) (pv 0) (pv 1) (nomark _)) (pa_cons (pe_cmpR (OpR.or (kx_ownEq K rfl T.eq_Rule C_Rule___eq__ (hr.mono (by decide))) (OpR.or (kx_oddEq (way := true) K rfl T.eq_Rule T.odd_Rule C_Rule___eq__ (hr.mono (by decide))) (kx_oddEq (way := false) K rfl T.eq_Rule T.odd_Rule C_Rule___eq__ (hr.mono (by decide))))) (pv 1) (pv 0) (nomark _)) (pa_cons (pe_cmpR (OpR.or (kx_ownNe K rfl T.eq_Rule T.ne_Rule C_Rule___eq__ (hr.mono (by decide))) (OpR.or (kx_oddNe (way := true) K rfl T.eq_Rule T.ne_Rule T.odd_Rule C_Rule___eq__ (hr.mono (by decide)) (hr.mono (by decide))) (kx_oddNe (way := false) K rfl T.eq_Rule T.ne_Rule T.odd_Rule C_Rule___eq__ (hr.mono (by decide)) (hr.mono (by decide))))) (pv 0) (pv 1) (nomark _)) (pa_cons (pe_cmpR (OpR.or (kx_ownNe K rfl T.eq_Rule T.ne_Rule C_Rule___eq__ (hr.mono (by decide))) (OpR.or (kx_oddNe (way := true) K rfl T.eq_Rule T.ne_Rule T.odd_Rule C_Rule___eq__ (hr.mono (by decide)) (hr.mono (by decide))) (kx_oddNe (way := false) K rfl T.eq_Rule T.ne_Rule T.odd_Rule C_Rule___eq__ (hr.mono (by decide)) (hr.mono (by decide))))) (pv 1) (pv 0) (nomark _)) pa_nil))))) pa_nil))))) (fun ds m Q h => ?_)
  replace h := h.2
  clear nd
  have gS := T.g_Rule
  obtain ⟨E, K1, N, y, rfl, ok, q⟩ := h
  rcases q with ⟨E', K', N', rfl, ok', q⟩ | ⟨od, q⟩
  · have e : ∃ b : Bool, (b = true ↔ E = E' ∧ K1 = K' ∧ N = N') := ⟨decide (E = E' ∧ K1 = K' ∧ N = N'), decide_eq_true_iff⟩
    obtain ⟨b, hb⟩ := e
    have hb2 : b = true ↔ E' = E ∧ K' = K1 ∧ N' = N := hb.trans ⟨fun z => ⟨z.1.symm, z.2.1.symm, z.2.2.symm⟩, fun z => ⟨z.1.symm, z.2.1.symm, z.2.2.symm⟩⟩
    have same : ∀ {c d : Bool} {p : Prop}, (c = true ↔ p) → (d = true ↔ p) → d = c := fun {c d p} h1 h2 => by
      cases c <;> cases d <;> simp_all
    walk_at "g"
    refine ew_l4 ?_
    refine ew_op (ew_var rfl (ew_var rfl (ow_or1 (ow_own ⟨rfl, E, K1, N, _, rfl, ok, .inl ⟨E', K', N', rfl, ok', fun c hc => ⟨c, rfl, ?_⟩⟩⟩))))
    obtain rfl := same hb hc
    refine ew_op (ew_var rfl (ew_var rfl (ow_or1 (ow_own ⟨rfl, E', K', N', _, rfl, ok', .inl ⟨E, K1, N, rfl, ok, fun c hc => ⟨c, rfl, ?_⟩⟩⟩))))
    obtain rfl := same hb2 hc
    refine ew_op (ew_var rfl (ew_var rfl (ow_or1 (ow_ownNe ⟨rfl, E, K1, N, _, rfl, ok, .inl ⟨E', K', N', rfl, ok', fun c hc => ⟨c, rfl, ?_⟩⟩⟩))))
    obtain rfl := same hb hc
    refine ew_op (ew_var rfl (ew_var rfl (ow_or1 (ow_ownNe ⟨rfl, E', K', N', _, rfl, ok', .inl ⟨E, K1, N, rfl, ok, fun c hc => ⟨c, rfl, ?_⟩⟩⟩))))
    obtain rfl := same hb2 hc
    exact aw_nil (cw_both (q _ hb))
  · walk_at "g"
    refine ew_l4 ?_
    refine ew_op (ew_var rfl (ew_var rfl (ow_or2 (ow_or1 (ow_oddL od ⟨rfl, E, K1, N, y, rfl, ok, .inr ⟨od, false, rfl, ?_⟩⟩)))))
    refine ew_op (ew_var rfl (ew_var rfl (ow_or2 (ow_or2 (ow_oddR od ⟨rfl, E, K1, N, y, rfl, ok, .inr ⟨od, false, rfl, ?_⟩⟩)))))
    refine ew_op (ew_var rfl (ew_var rfl (ow_or2 (ow_or1 (ow_oddL od ⟨rfl, E, K1, N, y, rfl, ok, .inr ⟨od, false, rfl, ?_⟩⟩)))))
    refine ew_op (ew_var rfl (ew_var rfl (ow_or2 (ow_or2 (ow_oddR od ⟨rfl, E, K1, N, y, rfl, ok, .inr ⟨od, false, rfl, ?_⟩⟩)))))
    exact aw_nil (cw_both q)

end
end DL

set_option Elab.async false
set_option linter.all false
set_option maxRecDepth 100000
set_option maxHeartbeats 4000000
set_option autoImplicit false
namespace DL
open PySem PySem.Spec PyProof.Rows L2
local macro_rules | `(tactic| walk_at "m") => `(tactic| first
  | with_reducible exact MAt.last | with_reducible exact MUp.last
  | exact MAt.zero | exact MUp.zero | exact MAt.last | exact MUp.last
  | (apply MAt.cons; walk_at "m") | (apply MUp.cons; walk_at "m")
  | (apply MAt.app; walk_at "m") | (apply MUp.app; walk_at "m")
  | assumption)
local macro_rules | `(tactic| walk_at "s1") => `(tactic| with_reducible first
  | refine sw_seq ?_ | refine sw_next ?_ | refine sw_ret ?_ | refine sw_retN ?_ | refine sw_asg ?_ | refine sw_asgG ?_ | refine sw_drop ?_ | refine sw_break ?_ | refine sw_cont ?_ | refine sw_par ?_ | refine sw_par3 ?_
  | refine tw_test ?_ | refine tw_B ?_ | refine tw_and ?_ | refine tw_or ?_ | refine tw_not ?_ | refine tw_yes ?_
  | refine ew_op ?_ | refine ew_un ?_ | refine ew_int ?_ | refine ew_non ?_ | refine ew_bl ?_ | refine ew_str ?_ | refine ew_ty ?_ | refine ew_ref ?_ | refine ew_cb ?_ | refine ew_if ?_ | refine ew_andV ?_ | refine ew_orV ?_ | refine ew_notV ?_ | refine ew_chain ?_ | refine ew_sl ?_ | refine pw_no ?_ | refine pw_part ?_
  | refine ew_call0 ?_ | refine ew_kw0 ?_
  | refine aw_nil ?_ | refine aw_cons ?_ | refine ew_bm ?_ | refine ew_bm0 ?_ | refine gs_L ?_
  | refine gs_nil ?_ | refine gs_cons ?_ | refine gw_name ?_
  | refine ow_addI ?_ | refine ow_odd ?_ | refine ow_i0 ?_ | refine ow_b0 ?_ | refine oq_eqI ?_ | refine oq_neI ?_ | refine oq_eqS ?_ | refine oq_neS ?_ | refine ow_isN ?_ | refine ow_notN ?_ | refine uw_neg ?_ | refine cw_int ?_ | refine cw_intB ?_ | refine cw_abs ?_ | refine cw_mx2 ?_ | refine cw_mn2 ?_ | refine cw_lenL ?_ | refine cw_lenR ?_ | refine cw_listL ?_ | refine cw_listT ?_ | refine lw_L ?_ | refine ew_revL ?_)
local macro_rules | `(tactic| walk_at "s2") => `(tactic| first
  | ((with_reducible refine' ew_var ?hv ?_); (case hv => exact rfl))
  | ((with_reducible refine' oi_M ?hm ?hi ?_); (case hm => walk_at "m"); (case hi => exact rfl))
  | ((with_reducible refine' ow_ixT ?hi ?_); (case hi => exact rfl))
  | ((with_reducible refine' cl_M ?hm ?_); (case hm => walk_at "m"))
  | ((with_reducible refine' ci_M ?hm ?_); (case hm => walk_at "m"))
  | ((with_reducible refine' ma_app ?hm ?ll ?_); (case hm => walk_at "m"); (case ll => walk_at "l"))
  | ((with_reducible refine' And.intro (ty_A ?hm) ?_); (case hm => walk_at "m"))
  | (with_reducible refine' Exists.intro _ (And.intro ?he ?_); (case he => exact rfl))
  | (with_reducible refine' Exists.intro _ (Exists.intro _ (And.intro ?he ?_)); (case he => exact rfl))
  | (with_reducible refine' Exists.intro _ (Exists.intro _ (Exists.intro _ (And.intro ?he ?_))); (case he => exact rfl))
  | ((with_reducible refine' Exists.intro _ (Exists.intro _ (Exists.intro _ (Exists.intro _ (Exists.intro _ (And.intro ?e1 (And.intro ?e2 (And.intro ?hm (And.intro ?hi ?_))))))))); (case e1 => exact rfl); (case e2 => exact rfl); (case hm => walk_at "m"); (case hi => exact rfl)))
local macro_rules | `(tactic| walk_at "l") => `(tactic| first | assumption | exact lt_sz (by omega) | exact lt_sz (by simp only [List.length_map, List.length_append, List.length_cons, List.length_nil, List.length_take, List.length_drop, List.length_range]; omega))
local macro_rules | `(tactic| walk_at "s") => `(tactic| repeat (first | walk_at "s1" | walk_at "s2"))
local macro_rules | `(tactic| walk_at "sx") => `(tactic| with_reducible first
  | refine swx_of ?_ | refine swx_seq ?_ | refine swx_drop ?_ | refine swx_asg ?_ | refine swx_ret ?_ | refine ewx_fun ?_ | refine ewx_meth ?_ | refine ewx_make ?_ | refine ewx_sub ?_)
local macro_rules | `(tactic| walk_at "s") => `(tactic| repeat (first | walk_at "s1" | walk_at "s2" | walk_at "sx"))
local macro_rules | `(tactic| walk_at "g1") => `(tactic| with_reducible first
  | refine ew_tup2 ?_ | refine ew_tup3 ?_ | refine ew_tup4 ?_ | refine ew_fldI ?_ | refine sw_fldA ?_ | refine ew_dget1 ?_ | refine ew_dget2 ?_ | refine ow_isN ?_)
local macro_rules | `(tactic| walk_at "g2") => `(tactic| first
  | ((with_reducible refine' gw_tup ?e ?_); (case e => exact rfl))
  | ((with_reducible refine' oi_L ?e ?_); (case e => exact rfl))
  | ((refine' Exists.intro _ (And.intro ?cl (And.intro ?na (And.intro ?e ?_)))); (case cl => assumption); (case na => assumption); (case e => exact rfl))
  | ((refine' Exists.intro _ (Exists.intro _ (Exists.intro _ (Exists.intro _ (And.intro ?e (And.intro ?hm (And.intro ?cl (And.intro ?na (And.intro ?l ?_))))))))); (case e => exact rfl); (case hm => walk_at "m"); (case cl => assumption); (case na => assumption); (case l => exact Nat.le_of_ble_eq_true rfl)))
local macro_rules | `(tactic| walk_at "g") => `(tactic| repeat (first | walk_at "s1" | walk_at "s2" | walk_at "sx" | walk_at "g1" | walk_at "g2"))

section
variable {P : Program} {w : World} {K : PySem.W.Frag} {mg : Str → Option Value} {base : Heap} {a : Ads}
/-! ### the parts, each in one form -/
theorem once_nd {ws : List Str} (h : ws.Nodup) : once ws = ws := by
  have key : ∀ l seen : List Str, (seen ++ l).Nodup → l.foldl (fun l x => if x ∈ l then l else l ++ [x]) seen = seen ++ l := by
    intro l
    induction l with
    | nil => intro seen _; simp
    | cons x l ih =>
      intro seen hn
      have hx : x ∉ seen := fun hm => (List.nodup_append.mp hn).2.2 x hm x (by simp) rfl
      rw [List.foldl_cons, if_neg hx, ih (seen ++ [x]) (by rw [List.append_assoc]; exact hn), List.append_assoc]
      rfl
  have := key ws [] (by rw [List.nil_append]; exact h)
  rwa [List.nil_append] at this
abbrev sortD (e : List Str) (k : List (Str × Str)) (r : List (Str × Int)) : D := .lst [.lst ((srtS e).map .str), .lst ((nK k).map kpD), .lst ((nR r).map rpD)]
def F_sorted : FS := fun ds m Q => ∃ e k r, ds = [planD e k r] ∧ PlanOk e k r ∧ Q (sortD e k r) m
theorem ok__law_sorted (T : Txt K mg a) : Def P w K mg base 2 a.f__law_sorted ["drawn"] (FSn 1 (F_sorted)) := by
  have nd := sc__law_sorted.nd
  refine defOk T.h__law_sorted sc__law_sorted (fun _ _ _ h => h.1) (fun cdv A outer s H E hr => by exact (pss_cons (ps_set (i := 1) nd rfl (Or.inl rfl) (pe_callTy (kx_dictP K rfl rfl) (by rfl) T.n_dict (by decide +kernel) (pa_cons (pe_lc (own := [("duo", 2)]) (g := (gName 2)) rfl nd (kx_pi K rfl (pe_ix (kx_ix K rfl hr.units) (pv 0) pe_int (fun _ _ => rfl))) (blkOk_by (own := [("duo", 2)]) (N := N__law_sorted) (sc := defScope s__law_sorted) (by decide +kernel)) (fun _ _ _ _ _ => (pg_name (i := 2) nd rfl (by first | exact Or.inl rfl | exact Or.inr rfl))) (fun _ _ _ _ _ => (pts_one (pt_cmpR (kx_neU K rfl hr.units) (pe_ix (kx_ix K rfl hr.units) (pv 2) pe_int (fun _ _ => rfl)) pe_int (nomark _)))) (fun _ _ _ _ _ => (pv 2))) pa_nil)))
    (pss_one (ps_ret (pe_lst (pa_cons (pe_callB (kx_sortG (P := P) (w := w) rfl rfl rfl) (by rfl) T.n_sorted (by decide +kernel) (pa_cons (pe_callTy (kx_setS (P := P) (w := w) K rfl rfl rfl rfl) (by rfl) T.n_set (by decide +kernel) (pa_cons (pe_ix (kx_ix K rfl hr.units) (pv 0) pe_int (fun _ _ => rfl)) pa_nil)) pa_nil)) (pa_cons (pe_callB (cr_sortItV rfl) (by rfl) T.n_sorted (by decide +kernel) (pa_cons (pe_itemsV (pe_callTy (kx_dictP K rfl rfl) (by rfl) T.n_dict (by decide +kernel) (pa_cons (pe_ix (kx_ix K rfl hr.units) (pv 0) pe_int (fun _ _ => rfl)) pa_nil))) pa_nil)) (pa_cons (pe_callB (cr_sortItV rfl) (by rfl) T.n_sorted (by decide +kernel) (pa_cons (pe_itemsV (pv 1)) pa_nil)) pa_nil)))))))) (fun ds m Q h => ?_)
  replace h := h.2
  clear nd
  obtain ⟨e, k, r, rfl, ok, q⟩ := h
  have el := ok.el
  have kl := ok.kl
  have rl := ok.rl
  walk_at "g"
  refine ew_lcP (tame_name (by decide)) (iw_any ?_)
  walk_at "g"
  refine ⟨_, .inl rfl, Str × Int, r, rpD, rpD, fun p => !decide (p.2 = 0), rfl, le_sz (by omega), ?_, ?_⟩
  · rintro ⟨x, y⟩ acc z hx
    walk_at "g"
    refine ⟨rfl, rfl, fun _ => ?_⟩
    walk_at "g"
    exact ⟨rfl, rfl⟩
  walk_at "g"
  have nd2 : ((r.filter fun p => !decide (p.2 = 0)).map (·.1)).Nodup := ok.rd.sublist (List.filter_sublist.map _)
  refine dict_r nd2 ?_
  walk_at "g"
  refine ew_l3 ?_
  refine ew_srtSet ?_
  walk_at "g"
  refine ⟨e, .of, by omega, ?_⟩
  rw [once_nd ok.ed]
  refine ew_sortIt ?_
  walk_at "g"
  refine dict_k ok.kd ?_
  refine ⟨k.map fun p => (p.1, .str p.2), by rw [List.map_map]; rfl, by rw [List.map_map]; exact ok.kd, fun x hx => ?_, fun ps pm so => ?_⟩
  · obtain ⟨p, _, rfl⟩ := List.mem_map.mp hx
    exact .inr ⟨p.2, rfl⟩
  have e1 : ps.map (fun e => D.tup [.str e.1, e.2]) = (nK k).map kpD := by
    have e2 : ps = (nK k).map fun p => (p.1, D.str p.2) := by
      refine SortS.pairs so ?_ (((pm.map _).nodup_iff).mpr (by rw [List.map_map]; exact ok.kd)) (pm.trans ((nK_perm ok.kd).symm.map _))
      rw [List.map_map]
      show SortS ((nK k).map (·.1))
      rw [nK_fst]
      exact srtS_srt _
    rw [e2, List.map_map]
    rfl
  rw [e1]
  refine ew_sortIt ?_
  walk_at "g"
  refine ⟨(r.filter fun p => !decide (p.2 = 0)).map fun p => (p.1, .int p.2), by rw [List.map_map]; rfl, by rw [List.map_map]; exact nd2, fun x hx => ?_, fun ps pm so => ?_⟩
  · obtain ⟨p, _, rfl⟩ := List.mem_map.mp hx
    exact .inl ⟨p.2, rfl⟩
  have e1 : ps.map (fun e => D.tup [.str e.1, e.2]) = (nR r).map rpD := by
    have e2 : ps = (nR r).map fun p => (p.1, D.int p.2) := by
      refine SortS.pairs so ?_ (((pm.map _).nodup_iff).mpr (by rw [List.map_map]; exact nd2)) (pm.trans ((nR_perm ok.rd).symm.map _))
      rw [List.map_map]
      exact nR_srt r
    rw [e2, List.map_map]
    rfl
  rw [e1]
  exact q

end
end DL

set_option Elab.async false
set_option linter.all false
set_option maxRecDepth 100000
set_option maxHeartbeats 4000000
set_option autoImplicit false
namespace DL
open PySem PySem.Spec PyProof.Rows L2
local macro_rules | `(tactic| walk_at "m") => `(tactic| first
  | with_reducible exact MAt.last | with_reducible exact MUp.last
  | exact MAt.zero | exact MUp.zero | exact MAt.last | exact MUp.last
  | (apply MAt.cons; walk_at "m") | (apply MUp.cons; walk_at "m")
  | (apply MAt.app; walk_at "m") | (apply MUp.app; walk_at "m")
  | assumption)
local macro_rules | `(tactic| walk_at "s1") => `(tactic| with_reducible first
  | refine sw_seq ?_ | refine sw_next ?_ | refine sw_ret ?_ | refine sw_retN ?_ | refine sw_asg ?_ | refine sw_asgG ?_ | refine sw_drop ?_ | refine sw_break ?_ | refine sw_cont ?_ | refine sw_par ?_ | refine sw_par3 ?_
  | refine tw_test ?_ | refine tw_B ?_ | refine tw_and ?_ | refine tw_or ?_ | refine tw_not ?_ | refine tw_yes ?_
  | refine ew_op ?_ | refine ew_un ?_ | refine ew_int ?_ | refine ew_non ?_ | refine ew_bl ?_ | refine ew_str ?_ | refine ew_ty ?_ | refine ew_ref ?_ | refine ew_cb ?_ | refine ew_if ?_ | refine ew_andV ?_ | refine ew_orV ?_ | refine ew_notV ?_ | refine ew_chain ?_ | refine ew_sl ?_ | refine pw_no ?_ | refine pw_part ?_
  | refine ew_call0 ?_ | refine ew_kw0 ?_
  | refine aw_nil ?_ | refine aw_cons ?_ | refine ew_bm ?_ | refine ew_bm0 ?_ | refine gs_L ?_
  | refine gs_nil ?_ | refine gs_cons ?_ | refine gw_name ?_
  | refine ow_addI ?_ | refine ow_odd ?_ | refine ow_i0 ?_ | refine ow_b0 ?_ | refine oq_eqI ?_ | refine oq_neI ?_ | refine oq_eqS ?_ | refine oq_neS ?_ | refine ow_isN ?_ | refine ow_notN ?_ | refine uw_neg ?_ | refine cw_int ?_ | refine cw_intB ?_ | refine cw_abs ?_ | refine cw_mx2 ?_ | refine cw_mn2 ?_ | refine cw_lenL ?_ | refine cw_lenR ?_ | refine cw_listL ?_ | refine cw_listT ?_ | refine lw_L ?_ | refine ew_revL ?_)
local macro_rules | `(tactic| walk_at "s2") => `(tactic| first
  | ((with_reducible refine' ew_var ?hv ?_); (case hv => exact rfl))
  | ((with_reducible refine' oi_M ?hm ?hi ?_); (case hm => walk_at "m"); (case hi => exact rfl))
  | ((with_reducible refine' ow_ixT ?hi ?_); (case hi => exact rfl))
  | ((with_reducible refine' cl_M ?hm ?_); (case hm => walk_at "m"))
  | ((with_reducible refine' ci_M ?hm ?_); (case hm => walk_at "m"))
  | ((with_reducible refine' ma_app ?hm ?ll ?_); (case hm => walk_at "m"); (case ll => walk_at "l"))
  | ((with_reducible refine' And.intro (ty_A ?hm) ?_); (case hm => walk_at "m"))
  | (with_reducible refine' Exists.intro _ (And.intro ?he ?_); (case he => exact rfl))
  | (with_reducible refine' Exists.intro _ (Exists.intro _ (And.intro ?he ?_)); (case he => exact rfl))
  | (with_reducible refine' Exists.intro _ (Exists.intro _ (Exists.intro _ (And.intro ?he ?_))); (case he => exact rfl))
  | ((with_reducible refine' Exists.intro _ (Exists.intro _ (Exists.intro _ (Exists.intro _ (Exists.intro _ (And.intro ?e1 (And.intro ?e2 (And.intro ?hm (And.intro ?hi ?_))))))))); (case e1 => exact rfl); (case e2 => exact rfl); (case hm => walk_at "m"); (case hi => exact rfl)))
local macro_rules | `(tactic| walk_at "l") => `(tactic| first | assumption | exact lt_sz (by omega) | exact lt_sz (by simp only [List.length_map, List.length_append, List.length_cons, List.length_nil, List.length_take, List.length_drop, List.length_range]; omega))
local macro_rules | `(tactic| walk_at "s") => `(tactic| repeat (first | walk_at "s1" | walk_at "s2"))
local macro_rules | `(tactic| walk_at "sx") => `(tactic| with_reducible first
  | refine swx_of ?_ | refine swx_seq ?_ | refine swx_drop ?_ | refine swx_asg ?_ | refine swx_ret ?_ | refine ewx_fun ?_ | refine ewx_meth ?_ | refine ewx_make ?_ | refine ewx_sub ?_)
local macro_rules | `(tactic| walk_at "s") => `(tactic| repeat (first | walk_at "s1" | walk_at "s2" | walk_at "sx"))
local macro_rules | `(tactic| walk_at "g1") => `(tactic| with_reducible first
  | refine ew_tup2 ?_ | refine ew_tup3 ?_ | refine ew_tup4 ?_ | refine ew_fldI ?_ | refine sw_fldA ?_ | refine ew_dget1 ?_ | refine ew_dget2 ?_ | refine ow_isN ?_)
local macro_rules | `(tactic| walk_at "g2") => `(tactic| first
  | ((with_reducible refine' gw_tup ?e ?_); (case e => exact rfl))
  | ((with_reducible refine' oi_L ?e ?_); (case e => exact rfl))
  | ((refine' Exists.intro _ (And.intro ?cl (And.intro ?na (And.intro ?e ?_)))); (case cl => assumption); (case na => assumption); (case e => exact rfl))
  | ((refine' Exists.intro _ (Exists.intro _ (Exists.intro _ (Exists.intro _ (And.intro ?e (And.intro ?hm (And.intro ?cl (And.intro ?na (And.intro ?l ?_))))))))); (case e => exact rfl); (case hm => walk_at "m"); (case cl => assumption); (case na => assumption); (case l => exact Nat.le_of_ble_eq_true rfl)))
local macro_rules | `(tactic| walk_at "g") => `(tactic| repeat (first | walk_at "s1" | walk_at "s2" | walk_at "sx" | walk_at "g1" | walk_at "g2"))

section
variable {P : Program} {w : World} {K : PySem.W.Frag} {mg : Str → Option Value} {base : Heap} {a : Ads}
/-! ### lists of new lists, as cells; lent as data -/
theorem MUp.pre {a b b' : Mem} {p : Addr} {c c' : Cell} (h : MUp b p c c' b') : MUp (a ++ b) p c c' (a ++ b') := by
  obtain ⟨i, h1, rfl⟩ := h
  refine ⟨a.length + i, ?_, ?_⟩
  · rw [List.getElem?_append_right (by omega), Nat.add_sub_cancel_left]
    exact h1
  · rw [List.set_append_right _ _ (by omega), Nat.add_sub_cancel_left]
theorem MAt.pre {a b : Mem} {p : Addr} {c : Cell} (h : MAt b p c) : MAt (a ++ b) p c := by
  obtain ⟨i, h1⟩ := h
  refine ⟨a.length + i, ?_⟩
  rw [List.getElem?_append_right (by omega), Nat.add_sub_cancel_left]
  exact h1
theorem MAt.of_mem {m : Mem} {x : Addr × Cell} (h : x ∈ m) : MAt m x.1 x.2 := List.mem_iff_getElem?.mp h
section
variable {α : Type} {f : α → D}
abbrev lstF (f : α → D) (r : List α) : D := .lst (r.map f)
abbrev cellF (f : α → D) (z : Addr) (r : List α) : Addr × Cell := (z, .lst (r.map f))
def cellsF (f : α → D) (zs : List Addr) (G : List (List α)) : Mem := List.zipWith (cellF f) zs G
theorem cellsF_snoc {zs : List Addr} {G : List (List α)} (h : zs.length = G.length) (z r) : cellsF f (zs ++ [z]) (G ++ [r]) = cellsF f zs G ++ [cellF f z r] := by unfold cellsF; rw [List.zipWith_append h]; rfl
theorem cellsF_at {zs : List Addr} {G : List (List α)} {j : Nat} {z : Addr} {r : List α} (hz : zs[j]? = some z) (hr : G[j]? = some r) : (cellsF f zs G)[j]? = some (cellF f z r) := by
  unfold cellsF
  rw [List.getElem?_zipWith, hz, hr]
theorem cellsF_up {zs : List Addr} {G : List (List α)} {j : Nat} {z : Addr} {r : List α} (hz : zs[j]? = some z) (hr : G[j]? = some r) (r' : List α) : MUp (cellsF f zs G) z (.lst (r.map f)) (.lst (r'.map f)) (cellsF f zs (G.set j r')) := by
  refine ⟨j, cellsF_at hz hr, ?_⟩
  refine List.ext_getElem? fun i => ?_
  unfold cellsF
  rw [List.getElem?_set, List.getElem?_zipWith, List.getElem?_zipWith, List.getElem?_set]
  have hj := (List.getElem?_eq_some_iff.mp hr).1
  have hjz := (List.getElem?_eq_some_iff.mp hz).1
  by_cases e : j = i
  · subst e
    rw [if_pos rfl, if_pos rfl, if_pos hj, if_pos (by rw [List.length_zipWith]; omega), hz]
  · rw [if_neg e, if_neg e]
/-- [list(row) for row in rows] : a list of new cells -/
theorem ew_cellsF {K : PySem.W.Frag} {δ : List (Option D)} {m : Mem} {Q : D → Mem → Prop} {te : TE} {tt : TT} {g : TG} {wi : TI} {vs : List Nat} (f : α → D) (tm : Tame g vs) (h : IW K wi δ m fun ds m1 => ∃ G : List (List α), ds = G.map (lstF f) ∧ G.length ≤ sizeLine ∧
      (∀ (b : List α) (acc : List D) (m' : Mem) (z : Addr), b ∈ G → GW K g (lstF f b) (wipeD δ vs) (m' ++ [(z, .lst acc)]) fun δ2 m2 => TW K tt δ2 m2 fun c m3 => c = true ∧ EW K te δ2 m3 fun y m4 => ∃ z2, y = .adr z2 ∧ m4 = m' ++ [(z, .lst acc)] ++ [(z2, .lst (b.map f))]) ∧
      ∀ (zs : List Addr) (z : Addr), zs.length = G.length → Q (.adr z) (m1 ++ cellsF f zs G ++ [(z, .lst (zs.map .adr))])) : EW K (tLc wi g tt te vs) δ m Q := by
  refine ew_lcM tm fun σ H s M QQ k => h σ H s M QQ fun J H1 m1 ds ⟨G, ed, hl, st, q⟩ => k J H1 m1 ds ⟨fun j acc m' => ∃ zs : List Addr, zs.length = (G.take j).length ∧ acc = zs.map .adr ∧ m' = m1 ++ cellsF f zs (G.take j), ⟨[], rfl, rfl, by show m1 = m1 ++ []; rw [List.append_nil]⟩, ?_, ?_⟩
  · rintro j d acc m' z hj ⟨zs, hz, rfl, rfl⟩
    subst ed
    obtain ⟨b, hb, rfl⟩ : ∃ b, G[j]? = some b ∧ lstF f b = d := by
      rw [List.getElem?_map] at hj
      cases c : G[j]? with
      | none => rw [c] at hj; cases hj
      | some b => rw [c] at hj; injection hj with hj; exact ⟨b, rfl, hj⟩
    have hlt := (List.getElem?_eq_some_iff.mp hb).1
    have et : G.take (j + 1) = G.take j ++ [b] := by rw [List.take_add_one, hb]; rfl
    have hz2 := hz
    rw [List.length_take] at hz2
    refine ⟨by rw [List.length_map]; omega, ?_⟩
    refine fun σ H v s M r QQ k => st b _ _ z (List.mem_of_getElem? hb) σ H v s M r QQ fun δ' m' σ' H' q => k δ' m' σ' H' fun σ H s M QQ k => q σ H s M QQ fun c m2 H2 q => k c m2 H2 ?_
    obtain ⟨hc, q⟩ := q
    rw [if_pos hc]
    refine ew_perm (fun σ H s M QQ k => q σ H s M QQ fun y m4 v4 H4 q => k y m4 v4 H4 ?_)
    obtain ⟨z2, rfl, rfl⟩ := q
    refine ⟨_, perm_end, m1 ++ cellsF f zs (G.take j) ++ [(z2, .lst (b.map f))], rfl, zs ++ [z2], by rw [et, List.length_append, List.length_append, hz]; rfl, by rw [List.map_append]; rfl, ?_⟩
    rw [et, cellsF_snoc hz, List.append_assoc]
  · rintro acc m' z ⟨zs, hz, rfl, rfl⟩
    subst ed
    rw [List.length_map, List.take_length] at hz ⊢
    exact q zs z hz
end
def Lends (K : PySem.W.Frag) (m0 r : Mem) (d0 d : D) : Prop := ∀ (H : Hp) (v : V), MemOk K (m0 ++ r) H → Rd K (hide (m0 ++ r) H) v d0 → Rd K (hide m0 H) v d
def LentG (K : PySem.W.Frag) (m0 r : Mem) (δ δ' : List (Option D)) : Prop := δ'.length = δ.length ∧ ∀ (i : Nat) (d : D), δ'[i]? = some (some d) → ∃ d0, δ[i]? = some (some d0) ∧ Lends K m0 r d0 d
theorem Lends.same {m0 r : Mem} {d : D} : Lends K m0 r d d := fun H v M x => x.mono (MemOk.dropG r M).2
theorem LentG.refl {m0 r : Mem} {δ : List (Option D)} : LentG K m0 r δ δ := ⟨rfl, fun _ d h => ⟨d, h, Lends.same⟩⟩
theorem LentG.set {m0 r : Mem} {δ δ' : List (Option D)} {i : Nat} {d0 d : D} (L : LentG K m0 r δ δ') (e : δ[i]? = some (some d0)) (h : Lends K m0 r d0 d) : LentG K m0 r δ (δ'.set i (some d)) := by
  refine ⟨by rw [List.length_set]; exact L.1, fun j x hx => ?_⟩
  by_cases hj : i = j
  · subst hj
    have hl : i < δ'.length := by rw [L.1]; exact (List.getElem?_eq_some_iff.mp e).1
    rw [List.getElem?_set_self hl] at hx
    cases hx
    exact ⟨d0, e, h⟩
  · rw [List.getElem?_set_ne hj] at hx
    exact L.2 j x hx
theorem LentG.sl {m0 r : Mem} {δ δ' : List (Option D)} {H : Hp} {σ : L2.St} (L : LentG K m0 r δ δ') (M : MemOk K (m0 ++ r) H) (s : Sl K (hide (m0 ++ r) H) σ δ) : Sl K (hide m0 H) σ δ' :=
  ⟨s.1.trans L.1.symm, fun i d h => let ⟨d0, e, l⟩ := L.2 i d h; let ⟨v, e1, r1⟩ := s.2 i d0 e; ⟨v, e1, l H v M r1⟩⟩
theorem Lends.cell {m0 r : Mem} {z : Addr} {c : Cell} {d : D} (hc : (z, c) ∈ r) (ec : c.d = some d) : Lends K m0 r (.adr z) d := fun H v M x => by
  cases x
  have sb := (MemOk.dropG r M).2
  have nd := M.nd
  rw [List.map_append] at nd
  refine still_of (M.at_ z c (List.mem_append_right _ hc)) ec sb (hide_out fun q => ?_)
  exact (List.nodup_append.mp nd).2.2 z q z (List.mem_map_of_mem (f := Prod.fst) hc) rfl
theorem Lends.rows {α : Type} {f : α → D} {m0 r : Mem} {H : Hp} (M : MemOk K (m0 ++ r) H) : ∀ {zs : List Addr} {G : List (List α)} {xs : List V}, zs.length = G.length → (∀ x ∈ cellsF f zs G, x ∈ r) → RdL K (hide (m0 ++ r) H) xs (zs.map .adr) → RdL K (hide m0 H) xs (G.map (lstF f))
  | [], [], _, _, _, x => by cases x; exact .nil
  | [], _ :: _, _, h, _, _ => by cases h
  | _ :: _, [], _, h, _, _ => by cases h
  | z :: zs, b :: G, xs, hl, h, x => by
    cases x with
    | cons x1 x2 =>
      refine .cons ?_ (Lends.rows M (by simpa using hl) (fun y hy => h y (List.mem_cons_of_mem (cellF f z b) hy)) x2)
      have hz : cellF f z b ∈ r := h (cellF f z b) List.mem_cons_self
      exact Lends.cell (c := .lst (b.map f)) hz rfl H _ M x1
theorem Lends.tab {α : Type} {f : α → D} {m0 r : Mem} {z : Addr} {zs : List Addr} {G : List (List α)} (hc : (z, Cell.lst (zs.map .adr)) ∈ r) (hl : zs.length = G.length) (h : ∀ x ∈ cellsF f zs G, x ∈ r) : Lends K m0 r (.adr z) (.lst (G.map (lstF f))) := fun H v M x => by
  cases x
  have nd := M.nd
  rw [List.map_append] at nd
  obtain ⟨xs, e, rr⟩ := M.at_ z _ (List.mem_append_right m0 hc)
  refine .lst ?_ (Lends.rows M hl h rr)
  rw [hide_out fun q => (List.nodup_append.mp nd).2.2 z q z (List.mem_map_of_mem (f := Prod.fst) hc) rfl]
  exact e
end
end DL

set_option Elab.async false
set_option linter.all false
set_option maxRecDepth 100000
set_option maxHeartbeats 4000000
set_option autoImplicit false
namespace DL
open PySem PySem.Spec PyProof.Rows L2
local macro_rules | `(tactic| walk_at "m") => `(tactic| first
  | with_reducible exact MAt.last | with_reducible exact MUp.last
  | exact MAt.zero | exact MUp.zero | exact MAt.last | exact MUp.last
  | (apply MAt.cons; walk_at "m") | (apply MUp.cons; walk_at "m")
  | (apply MAt.app; walk_at "m") | (apply MUp.app; walk_at "m")
  | assumption)
local macro_rules | `(tactic| walk_at "s1") => `(tactic| with_reducible first
  | refine sw_seq ?_ | refine sw_next ?_ | refine sw_ret ?_ | refine sw_retN ?_ | refine sw_asg ?_ | refine sw_asgG ?_ | refine sw_drop ?_ | refine sw_break ?_ | refine sw_cont ?_ | refine sw_par ?_ | refine sw_par3 ?_
  | refine tw_test ?_ | refine tw_B ?_ | refine tw_and ?_ | refine tw_or ?_ | refine tw_not ?_ | refine tw_yes ?_
  | refine ew_op ?_ | refine ew_un ?_ | refine ew_int ?_ | refine ew_non ?_ | refine ew_bl ?_ | refine ew_str ?_ | refine ew_ty ?_ | refine ew_ref ?_ | refine ew_cb ?_ | refine ew_if ?_ | refine ew_andV ?_ | refine ew_orV ?_ | refine ew_notV ?_ | refine ew_chain ?_ | refine ew_sl ?_ | refine pw_no ?_ | refine pw_part ?_
  | refine ew_call0 ?_ | refine ew_kw0 ?_
  | refine aw_nil ?_ | refine aw_cons ?_ | refine ew_bm ?_ | refine ew_bm0 ?_ | refine gs_L ?_
  | refine gs_nil ?_ | refine gs_cons ?_ | refine gw_name ?_
  | refine ow_addI ?_ | refine ow_odd ?_ | refine ow_i0 ?_ | refine ow_b0 ?_ | refine oq_eqI ?_ | refine oq_neI ?_ | refine oq_eqS ?_ | refine oq_neS ?_ | refine ow_isN ?_ | refine ow_notN ?_ | refine uw_neg ?_ | refine cw_int ?_ | refine cw_intB ?_ | refine cw_abs ?_ | refine cw_mx2 ?_ | refine cw_mn2 ?_ | refine cw_lenL ?_ | refine cw_lenR ?_ | refine cw_listL ?_ | refine cw_listT ?_ | refine lw_L ?_ | refine ew_revL ?_)
local macro_rules | `(tactic| walk_at "s2") => `(tactic| first
  | ((with_reducible refine' ew_var ?hv ?_); (case hv => exact rfl))
  | ((with_reducible refine' oi_M ?hm ?hi ?_); (case hm => walk_at "m"); (case hi => exact rfl))
  | ((with_reducible refine' ow_ixT ?hi ?_); (case hi => exact rfl))
  | ((with_reducible refine' cl_M ?hm ?_); (case hm => walk_at "m"))
  | ((with_reducible refine' ci_M ?hm ?_); (case hm => walk_at "m"))
  | ((with_reducible refine' ma_app ?hm ?ll ?_); (case hm => walk_at "m"); (case ll => walk_at "l"))
  | ((with_reducible refine' And.intro (ty_A ?hm) ?_); (case hm => walk_at "m"))
  | (with_reducible refine' Exists.intro _ (And.intro ?he ?_); (case he => exact rfl))
  | (with_reducible refine' Exists.intro _ (Exists.intro _ (And.intro ?he ?_)); (case he => exact rfl))
  | (with_reducible refine' Exists.intro _ (Exists.intro _ (Exists.intro _ (And.intro ?he ?_))); (case he => exact rfl))
  | ((with_reducible refine' Exists.intro _ (Exists.intro _ (Exists.intro _ (Exists.intro _ (Exists.intro _ (And.intro ?e1 (And.intro ?e2 (And.intro ?hm (And.intro ?hi ?_))))))))); (case e1 => exact rfl); (case e2 => exact rfl); (case hm => walk_at "m"); (case hi => exact rfl)))
local macro_rules | `(tactic| walk_at "l") => `(tactic| first | assumption | exact lt_sz (by omega) | exact lt_sz (by simp only [List.length_map, List.length_append, List.length_cons, List.length_nil, List.length_take, List.length_drop, List.length_range]; omega))
local macro_rules | `(tactic| walk_at "s") => `(tactic| repeat (first | walk_at "s1" | walk_at "s2"))
local macro_rules | `(tactic| walk_at "sx") => `(tactic| with_reducible first
  | refine swx_of ?_ | refine swx_seq ?_ | refine swx_drop ?_ | refine swx_asg ?_ | refine swx_ret ?_ | refine ewx_fun ?_ | refine ewx_meth ?_ | refine ewx_make ?_ | refine ewx_sub ?_)
local macro_rules | `(tactic| walk_at "s") => `(tactic| repeat (first | walk_at "s1" | walk_at "s2" | walk_at "sx"))
local macro_rules | `(tactic| walk_at "g1") => `(tactic| with_reducible first
  | refine ew_tup2 ?_ | refine ew_tup3 ?_ | refine ew_tup4 ?_ | refine ew_fldI ?_ | refine sw_fldA ?_ | refine ew_dget1 ?_ | refine ew_dget2 ?_ | refine ow_isN ?_)
local macro_rules | `(tactic| walk_at "g2") => `(tactic| first
  | ((with_reducible refine' gw_tup ?e ?_); (case e => exact rfl))
  | ((with_reducible refine' oi_L ?e ?_); (case e => exact rfl))
  | ((refine' Exists.intro _ (And.intro ?cl (And.intro ?na (And.intro ?e ?_)))); (case cl => assumption); (case na => assumption); (case e => exact rfl))
  | ((refine' Exists.intro _ (Exists.intro _ (Exists.intro _ (Exists.intro _ (And.intro ?e (And.intro ?hm (And.intro ?cl (And.intro ?na (And.intro ?l ?_))))))))); (case e => exact rfl); (case hm => walk_at "m"); (case cl => assumption); (case na => assumption); (case l => exact Nat.le_of_ble_eq_true rfl)))
local macro_rules | `(tactic| walk_at "g") => `(tactic| repeat (first | walk_at "s1" | walk_at "s2" | walk_at "sx" | walk_at "g1" | walk_at "g2"))

section
variable {P : Program} {w : World} {K : PySem.W.Frag} {mg : Str → Option Value} {base : Heap} {a : Ads}
theorem tk3 {p : Addr} {c : Cell} {rest : Mem} {n : Nat} {span : Int} {Q : D → Mem → Prop} (hk : Kit n c) (q : ∀ (r : Nat) (c' : Cell), (r : Int) < span → Kit (n + 1) c' → Q (.int (r : Nat)) ((p, c') :: rest)) (hn : n < 2 ^ 40 := by omega) (s0 : 0 < span := by decide) (s1 : span < 2 ^ 200 := by decide) : FSn 2 F_toss [.adr p, .int span] ((p, c) :: rest) Q := use_toss hk hn s0 s1 q
theorem sub_snoc {α : Type} {l ws : List α} {j : Nat} {x : α} (hj : ws[j]? = some x) (h : l.Sublist (ws.take j)) : (l ++ [x]).Sublist (ws.take (j + 1)) := by
  rw [List.take_add_one, hj]
  exact h.append_right [x]
theorem sub_on {α : Type} {l ws : List α} {j : Nat} (h : l.Sublist (ws.take j)) : l.Sublist (ws.take (j + 1)) := h.trans (List.take_sublist_take_left (by omega))
/-- the parts of a rule, as drawn: no name twice -/
structure Dn (ws e : List Str) (k : List (Str × Str)) (r : List (Str × Int)) : Prop where
  es : e.Sublist ws
  ks : (k.map (·.1)).Sublist ws
  kv : ∀ p ∈ k, nameB p.2 = true
  rs : (r.map (·.1)).Sublist ws
  rv : ∀ p ∈ r, p.2.natAbs < 10 ^ 20
theorem Dn.ok {ws e k r} (h : Dn ws e k r) (tg : Tags 9 ws) : PlanOk e k r ∧ e.length ≤ 9 ∧ k.length ≤ 9 ∧ r.length ≤ 9 := by
  have l1 := h.es.length_le
  have l2 := h.ks.length_le
  have l3 := h.rs.length_le
  rw [tg.len] at l1 l2 l3
  rw [List.length_map] at l2 l3
  exact ⟨⟨fun x hx => tg.nm x (h.es.subset hx), tg.nd.sublist h.es, fun p hp => ⟨tg.nm _ (h.ks.subset (List.mem_map_of_mem hp)), h.kv p hp⟩, tg.nd.sublist h.ks, fun p hp => ⟨tg.nm _ (h.rs.subset (List.mem_map_of_mem hp)), by have := h.rv p hp; omega⟩, tg.nd.sublist h.rs, by omega, by omega, by omega⟩, l1, l2, l3⟩
theorem six6 {a b : Int} {r : Nat} (h : (r : Int) < 6) (ha : a.natAbs < 10 ^ 19 + 1) (hb : b.natAbs < 10 ^ 19 + 1) : ∃ v : Int, v.natAbs < 10 ^ 20 ∧ L2.atI [D.int 0, .int 1, .int (-2), .int a, .int b, .int (b + 1)] ((r : Nat) : Int) = some (.int v) := by
  rcases (by omega : r = 0 ∨ r = 1 ∨ r = 2 ∨ r = 3 ∨ r = 4 ∨ r = 5) with rfl | rfl | rfl | rfl | rfl | rfl
  · exact ⟨0, by decide, rfl⟩
  · exact ⟨1, by decide, rfl⟩
  · exact ⟨-2, by decide, rfl⟩
  · exact ⟨a, by omega, rfl⟩
  · exact ⟨b, by omega, rfl⟩
  · exact ⟨b + 1, by omega, rfl⟩
def F_drawn : FS := fun ds m Q => ∃ (p : Addr) (c : Cell) (rest : Mem) (n : Nat), ds = [.adr p] ∧ m = (p, c) :: rest ∧ Kit n c ∧ n + 200 < 2 ^ 40 ∧
  ∀ (ws e : List Str) (k : List (Str × Str)) (r : List (Str × Int)) (c' : Cell), Tags 9 ws → Dn ws e k r → Kit (n + 200) c' → Q (planD e k r) ((p, c') :: rest)
theorem ok__law_drawn (T : Txt K mg a) : Def P w K mg base 4 a.f__law_drawn ["kit"] (FSn 1 (F_drawn)) := by
  have nd := sc__law_drawn.nd
  have C__law_toss := ok__law_toss (P := P) (w := w) (base := base) T
  have C__law_tags := ok__law_tags (P := P) (w := w) (base := base) T
  refine defOk T.h__law_drawn sc__law_drawn (fun _ _ _ h => h.1) (fun cdv A outer s H E hr => by exact (pss_cons (ps_asg (pe_tup (pa_cons (kx_def K rfl C__law_tags (hr.mono (by decide)) rfl T.g__law_tags T.k__law_tags (pa_cons (pv 0) (pa_cons pe_int pa_nil))) (pa_cons (kx_def K rfl C__law_tags (hr.mono (by decide)) rfl T.g__law_tags T.k__law_tags (pa_cons (pv 0) (pa_cons pe_int pa_nil))) (pa_cons (pe_op op_addU pe_int (kx_def K rfl C__law_toss (hr.mono (by decide)) rfl T.g__law_toss T.k__law_toss (pa_cons (pv 0) (pa_cons pe_int pa_nil)))) pa_nil)))) (kx_tup K rfl (n := 3) (by rfl) (pgs_cons (pg_name (i := 1) nd rfl (Or.inl rfl)) (pgs_cons (pg_name (i := 2) nd rfl (Or.inr rfl)) (pgs_cons (pg_name (i := 3) nd rfl (Or.inr rfl)) pgs_nil)))))
    (pss_cons (ps_setLc (i := 4) (own := [("label", 8)]) (g := (gName 8)) rfl nd rfl rfl (sw_true rfl rfl rfl (by decide +kernel)) (kx_pi K rfl (pv 1)) (blkOk_by (own := [("label", 8)]) (N := N__law_drawn) (sc := defScope s__law_drawn) (by decide +kernel)) (fun _ _ _ _ _ => (pg_name (i := 8) nd rfl (by first | exact Or.inl rfl | exact Or.inr rfl))) (fun _ _ _ _ _ => (pts_one (pt_cmpR (kx_eqU K rfl hr.units) (kx_def K rfl C__law_toss (hr.mono (by decide)) rfl T.g__law_toss T.k__law_toss (pa_cons (pv 0) (pa_cons (pv 3) pa_nil))) pe_int (nomark _)))) (fun _ _ _ _ _ => (pv 8)))
    (pss_cons (ps_setLc (i := 5) (own := [("label", 8)]) (g := (gName 8)) rfl nd rfl rfl (sw_true rfl rfl rfl (by decide +kernel)) (kx_pi K rfl (pv 1)) (blkOk_by (own := [("label", 8)]) (N := N__law_drawn) (sc := defScope s__law_drawn) (by decide +kernel)) (fun _ _ _ _ _ => (pg_name (i := 8) nd rfl (by first | exact Or.inl rfl | exact Or.inr rfl))) (fun _ _ _ _ _ => (pts_one (pt_cmpR (kx_eqU K rfl hr.units) (kx_def K rfl C__law_toss (hr.mono (by decide)) rfl T.g__law_toss T.k__law_toss (pa_cons (pv 0) (pa_cons pe_int pa_nil))) pe_int (nomark _)))) (fun _ _ _ _ _ => (pe_tup (pa_cons (pv 8) (pa_cons (pe_ix (kx_ix K rfl hr.units) (pv 2) (kx_def K rfl C__law_toss (hr.mono (by decide)) rfl T.g__law_toss T.k__law_toss (pa_cons (pv 0) (pa_cons pe_int pa_nil))) (fun _ _ => rfl)) pa_nil)))))
    (pss_cons (ps_par (i := 6) (j := 7) rfl nd rfl rfl (by decide) rfl rfl (pa_cons (pe_lst pa_nil) (pa_cons (kx_def K rfl C__law_toss (hr.mono (by decide)) rfl T.g__law_toss T.k__law_toss (pa_cons (pv 0) (pa_cons (pe_op op_powW pe_int pe_int) pa_nil))) pa_nil)) (by rfl))
    (pss_cons (ps_for PassesOwn.never rfl (kx_pi K rfl (pv 1)) (pg_name (i := 8) nd rfl (Or.inl rfl)) (pss_one (ps_if (pt_cmpR (kx_eqU K rfl hr.units) (kx_def K rfl C__law_toss (hr.mono (by decide)) rfl T.g__law_toss T.k__law_toss (pa_cons (pv 0) (pa_cons pe_int pa_nil))) pe_int (nomark _)) (pss_one (ps_expr (kx_bm K rfl PySem.F.plainAttrs_list PySem.F.slot_list_append PySem.F.type_list_append mt_append (pv 6) (pa_cons (pe_tup (pa_cons (pv 8) (pa_cons (pe_ix (kx_ix K rfl hr.units) (pe_lst (pa_cons pe_int (pa_cons pe_int (pa_cons (pe_un un_neg pe_int) (pa_cons (pe_op op_sub (kx_def K rfl C__law_toss (hr.mono (by decide)) rfl T.g__law_toss T.k__law_toss (pa_cons (pv 0) (pa_cons pe_int pa_nil))) pe_int) (pa_cons (pv 7) (pa_cons (pe_op op_addU (pv 7) pe_int) pa_nil))))))) (kx_def K rfl C__law_toss (hr.mono (by decide)) rfl T.g__law_toss T.k__law_toss (pa_cons (pv 0) (pa_cons pe_int pa_nil))) (fun _ _ => rfl)) pa_nil))) pa_nil)))) pss_nil)))
    (pss_one (ps_ret (pe_tup (pa_cons (pv 4) (pa_cons (pv 5) (pa_cons (pv 6) pa_nil)))))))))))) (fun ds m Q h => ?_)
  replace h := h.2
  clear nd
  obtain ⟨p, c, rest, n, rfl, rfl, hk, hn, q⟩ := h
  walk_at "g"
  refine ⟨rfl, p, c, rest, n, 9, rfl, rfl, hk, by omega, by omega, fun ws c1 tg k1 => ?_⟩
  walk_at "g"
  refine ⟨rfl, p, c1, rest, _, 3, rfl, rfl, k1, by omega, by omega, fun ls c2 tl k2 => ?_⟩
  walk_at "g"
  refine tk3 k2 (fun sh c3 h3 k3 => ?_) (by omega)
  have hwl := tg.len
  have hll := tl.len
  walk_at "g"
  refine ew_lc (tame_name (by decide)) (iw_any ?_)
  walk_at "g"
  refine ⟨_, .inl rfl, fun j acc m' => ∃ (e : List Str) (c' : Cell), e.Sublist (ws.take j) ∧ Kit (n + 41 + j) c' ∧ acc = e.map .str ∧ m' = (p, c') :: rest, ⟨[], c3, List.nil_sublist _, k3.up (by omega), rfl, rfl⟩, ?_, ?_⟩
  · rintro j d acc m' z hj ⟨e, c', es, kc, rfl, rfl⟩
    have hjl := (List.getElem?_eq_some_iff.mp hj).1
    rw [List.length_map] at hjl
    have hl := es.length_le
    rw [List.length_take] at hl
    obtain ⟨x, hx, rfl⟩ : ∃ x, ws[j]? = some x ∧ D.str x = d := by
      rw [List.getElem?_map] at hj
      cases c : ws[j]? with
      | none => rw [c] at hj; cases hj
      | some x => rw [c] at hj; injection hj with hj; exact ⟨x, rfl, hj⟩
    refine ⟨Nat.lt_of_le_of_lt (m := 9) (by rw [List.length_map]; omega) (by decide), ?_⟩
    walk_at "g"
    refine tk3 kc (fun r1 c4 h4 k4 => ?_) (by omega) (by omega) (by omega)
    walk_at "g"
    refine iteD (fun h0 => ?_) (fun h0 => ?_)
    · walk_at "g"
      exact ⟨_, rfl, e ++ [x], c4, sub_snoc hx es, k4.up (by omega), by rw [List.map_append]; rfl, rfl⟩
    · exact ⟨_, rfl, e, c4, sub_on es, k4.up (by omega), rfl, rfl⟩
  rintro acc m' ⟨e, c4, es, k4, rfl, rfl⟩
  rw [List.length_map, List.take_of_length_le (Nat.le_refl _)] at es
  rw [List.length_map, hwl] at k4
  walk_at "g"
  refine ew_lc (tame_name (by decide)) (iw_any ?_)
  walk_at "g"
  refine ⟨_, .inl rfl, fun j acc m' => ∃ (k : List (Str × Str)) (c' : Cell), (k.map (·.1)).Sublist (ws.take j) ∧ (∀ p ∈ k, nameB p.2 = true) ∧ Kit (n + 50 + 2 * j) c' ∧ acc = k.map kpD ∧ m' = (p, c') :: rest, ⟨[], c4, List.nil_sublist _, fun p hp => (by cases hp), k4.up (by omega), rfl, rfl⟩, ?_, ?_⟩
  · rintro j d acc m' z hj ⟨k, c', ks, kv, kc, rfl, rfl⟩
    have hjl := (List.getElem?_eq_some_iff.mp hj).1
    rw [List.length_map] at hjl
    have hl := ks.length_le
    rw [List.length_take, List.length_map] at hl
    obtain ⟨x, hx, rfl⟩ : ∃ x, ws[j]? = some x ∧ D.str x = d := by
      rw [List.getElem?_map] at hj
      cases c : ws[j]? with
      | none => rw [c] at hj; cases hj
      | some x => rw [c] at hj; injection hj with hj; exact ⟨x, rfl, hj⟩
    refine ⟨Nat.lt_of_le_of_lt (m := 9) (by rw [List.length_map]; omega) (by decide), ?_⟩
    walk_at "g"
    refine tk3 kc (fun r1 c5 h5 k5 => ?_) (by omega)
    walk_at "g"
    refine iteD (fun h0 => ?_) (fun h0 => ?_)
    · walk_at "g"
      refine tk3 k5 (fun r2 c6 h6 k6 => ?_) (by omega)
      have hr2 : r2 < ls.length := by omega
      refine oi_L (at_map (f := D.str) (List.getElem?_eq_getElem hr2)) ?_
      have hlm := tl.nm _ (List.getElem_mem hr2)
      generalize ls[r2] = y at hlm ⊢
      exact ⟨_, rfl, k ++ [(x, y)], c6, by rw [List.map_append]; exact sub_snoc hx ks, fun p hp => by
        rcases List.mem_append.mp hp with hp | hp
        · exact kv p hp
        · rw [List.mem_singleton.mp hp]; exact hlm, k6.up (by omega), by rw [List.map_append]; rfl, rfl⟩
    · exact ⟨_, rfl, k, c5, sub_on ks, kv, k5.up (by omega), rfl, rfl⟩
  rintro acc m' ⟨k, c5, ks, kv, k5, rfl, rfl⟩
  rw [List.length_map, List.take_of_length_le (Nat.le_refl _)] at ks
  rw [List.length_map, hwl] at k5
  walk_at "g"
  refine ew_lM0 fun z => ?_
  walk_at "g"
  refine ow_ic ⟨by decide, by decide⟩ ?_
  walk_at "g"
  refine tk3 k5 (fun far c6 h6 k6 => ?_) (by omega) (by decide) (by decide)
  have hfar : (far : Int) < 10000000000000000000 := h6
  walk_at "g"
  refine sw_forX (iw_any ?_)
  walk_at "g"
  refine ⟨_, .inl rfl, Str, ws, D.str, rfl, fun j δ' m' => ∃ (r : List (Str × Int)) (c' : Cell) (x8 : Option D), (r.map (·.1)).Sublist (ws.take j) ∧ (∀ p ∈ r, p.2.natAbs < 10 ^ 20) ∧ Kit (n + 80 + 3 * j) c' ∧ δ' = [some (.adr p), some (.lst (ws.map .str)), some (.lst (ls.map .str)), some (.int (1 + (sh : Nat))), some (.lst (e.map .str)), some (.lst (k.map kpD)), some (.adr z), some (.int (far : Nat)), x8] ∧ m' = (p, c') :: (rest ++ [(z, .lst (r.map rpD))]), ?_, ?_, ?_⟩
  · exact ⟨[], c6, _, List.nil_sublist _, fun p hp => (by cases hp), k6.up (by omega), rfl, rfl⟩
  · rintro j x δ' m' hj ⟨r, c', x8, rs, rv, kc, rfl, rfl⟩
    have hjl := (List.getElem?_eq_some_iff.mp hj).1
    have hl := rs.length_le
    rw [List.length_take, List.length_map] at hl
    walk_at "g"
    refine sw_if ?_
    walk_at "g"
    refine tk3 kc (fun r1 c7 h7 k7 => ?_) (by omega)
    walk_at "g"
    refine iteD (fun h0 => ?_) (fun h0 => ?_)
    · walk_at "g"
      refine ew_l6 ?_
      walk_at "g"
      refine tk3 k7 (fun r2 c8 h8 k8 => ?_) (by omega)
      walk_at "g"
      refine tk3 k8 (fun r3 c9 h9 k9 => ?_) (by omega)
      obtain ⟨v, hv, ev⟩ := six6 (a := (r2 : Nat) - 1000) (b := (far : Nat)) h9 (by omega) (by omega)
      refine oi_L ev ?_
      walk_at "g"
      exact ⟨r ++ [(x, v)], c9, _, by rw [List.map_append]; exact sub_snoc hj rs, fun p hp => by
        rcases List.mem_append.mp hp with hp | hp
        · exact rv p hp
        · rw [List.mem_singleton.mp hp]; exact hv, k9.up (by omega), rfl, by rw [List.map_append]; rfl⟩
    · walk_at "g"
      exact ⟨r, c7, _, sub_on rs, rv, k7.up (by omega), rfl, rfl⟩
  · rintro δ' m' ⟨r, c7, x8, rs, rv, k7, rfl, rfl⟩
    rw [List.take_of_length_le (Nat.le_refl _)] at rs
    rw [hwl] at k7
    refine sw_ret (ew_freeze (ew_tup3 (ew_var rfl (ew_var rfl (ew_var rfl ⟨(p, c7) :: rest, [(z, .lst (r.map rpD))], planD e k r, .refl _, fun H v M x => ?_, q ws e k r c7 tg ⟨es, ks, kv, rs, rv⟩ (k7.up (by omega))⟩)))))
    have sb := (MemOk.dropG _ M).2
    cases x with
    | tup e x =>
      cases x with
      | cons x1 x2 =>
        cases x2 with
        | cons x2 x3 =>
          cases x3 with
          | cons x3 x4 =>
            cases x4
            exact .tup (sb.sqt e) (.cons (x1.mono sb) (.cons (x2.mono sb) (.cons (Lends.cell (K := K) (m0 := (p, c7) :: rest) (r := [(z, .lst (r.map rpD))]) (c := .lst (r.map rpD)) (by simp) rfl H _ M x3) .nil)))

end
end DL

set_option Elab.async false
set_option linter.all false
set_option maxRecDepth 100000
set_option maxHeartbeats 4000000
set_option autoImplicit false
namespace DL
open PySem PySem.Spec PyProof.Rows L2
local macro_rules | `(tactic| walk_at "m") => `(tactic| first
  | with_reducible exact MAt.last | with_reducible exact MUp.last
  | exact MAt.zero | exact MUp.zero | exact MAt.last | exact MUp.last
  | (apply MAt.cons; walk_at "m") | (apply MUp.cons; walk_at "m")
  | (apply MAt.app; walk_at "m") | (apply MUp.app; walk_at "m")
  | assumption)
local macro_rules | `(tactic| walk_at "s1") => `(tactic| with_reducible first
  | refine sw_seq ?_ | refine sw_next ?_ | refine sw_ret ?_ | refine sw_retN ?_ | refine sw_asg ?_ | refine sw_asgG ?_ | refine sw_drop ?_ | refine sw_break ?_ | refine sw_cont ?_ | refine sw_par ?_ | refine sw_par3 ?_
  | refine tw_test ?_ | refine tw_B ?_ | refine tw_and ?_ | refine tw_or ?_ | refine tw_not ?_ | refine tw_yes ?_
  | refine ew_op ?_ | refine ew_un ?_ | refine ew_int ?_ | refine ew_non ?_ | refine ew_bl ?_ | refine ew_str ?_ | refine ew_ty ?_ | refine ew_ref ?_ | refine ew_cb ?_ | refine ew_if ?_ | refine ew_andV ?_ | refine ew_orV ?_ | refine ew_notV ?_ | refine ew_chain ?_ | refine ew_sl ?_ | refine pw_no ?_ | refine pw_part ?_
  | refine ew_call0 ?_ | refine ew_kw0 ?_
  | refine aw_nil ?_ | refine aw_cons ?_ | refine ew_bm ?_ | refine ew_bm0 ?_ | refine gs_L ?_
  | refine gs_nil ?_ | refine gs_cons ?_ | refine gw_name ?_
  | refine ow_addI ?_ | refine ow_odd ?_ | refine ow_i0 ?_ | refine ow_b0 ?_ | refine oq_eqI ?_ | refine oq_neI ?_ | refine oq_eqS ?_ | refine oq_neS ?_ | refine ow_isN ?_ | refine ow_notN ?_ | refine uw_neg ?_ | refine cw_int ?_ | refine cw_intB ?_ | refine cw_abs ?_ | refine cw_mx2 ?_ | refine cw_mn2 ?_ | refine cw_lenL ?_ | refine cw_lenR ?_ | refine cw_listL ?_ | refine cw_listT ?_ | refine lw_L ?_ | refine ew_revL ?_)
local macro_rules | `(tactic| walk_at "s2") => `(tactic| first
  | ((with_reducible refine' ew_var ?hv ?_); (case hv => exact rfl))
  | ((with_reducible refine' oi_M ?hm ?hi ?_); (case hm => walk_at "m"); (case hi => exact rfl))
  | ((with_reducible refine' ow_ixT ?hi ?_); (case hi => exact rfl))
  | ((with_reducible refine' cl_M ?hm ?_); (case hm => walk_at "m"))
  | ((with_reducible refine' ci_M ?hm ?_); (case hm => walk_at "m"))
  | ((with_reducible refine' ma_app ?hm ?ll ?_); (case hm => walk_at "m"); (case ll => walk_at "l"))
  | ((with_reducible refine' And.intro (ty_A ?hm) ?_); (case hm => walk_at "m"))
  | (with_reducible refine' Exists.intro _ (And.intro ?he ?_); (case he => exact rfl))
  | (with_reducible refine' Exists.intro _ (Exists.intro _ (And.intro ?he ?_)); (case he => exact rfl))
  | (with_reducible refine' Exists.intro _ (Exists.intro _ (Exists.intro _ (And.intro ?he ?_))); (case he => exact rfl))
  | ((with_reducible refine' Exists.intro _ (Exists.intro _ (Exists.intro _ (Exists.intro _ (Exists.intro _ (And.intro ?e1 (And.intro ?e2 (And.intro ?hm (And.intro ?hi ?_))))))))); (case e1 => exact rfl); (case e2 => exact rfl); (case hm => walk_at "m"); (case hi => exact rfl)))
local macro_rules | `(tactic| walk_at "l") => `(tactic| first | assumption | exact lt_sz (by omega) | exact lt_sz (by simp only [List.length_map, List.length_append, List.length_cons, List.length_nil, List.length_take, List.length_drop, List.length_range]; omega))
local macro_rules | `(tactic| walk_at "s") => `(tactic| repeat (first | walk_at "s1" | walk_at "s2"))
local macro_rules | `(tactic| walk_at "sx") => `(tactic| with_reducible first
  | refine swx_of ?_ | refine swx_seq ?_ | refine swx_drop ?_ | refine swx_asg ?_ | refine swx_ret ?_ | refine ewx_fun ?_ | refine ewx_meth ?_ | refine ewx_make ?_ | refine ewx_sub ?_)
local macro_rules | `(tactic| walk_at "s") => `(tactic| repeat (first | walk_at "s1" | walk_at "s2" | walk_at "sx"))
local macro_rules | `(tactic| walk_at "g1") => `(tactic| with_reducible first
  | refine ew_tup2 ?_ | refine ew_tup3 ?_ | refine ew_tup4 ?_ | refine ew_fldI ?_ | refine sw_fldA ?_ | refine ew_dget1 ?_ | refine ew_dget2 ?_ | refine ow_isN ?_)
local macro_rules | `(tactic| walk_at "g2") => `(tactic| first
  | ((with_reducible refine' gw_tup ?e ?_); (case e => exact rfl))
  | ((with_reducible refine' oi_L ?e ?_); (case e => exact rfl))
  | ((refine' Exists.intro _ (And.intro ?cl (And.intro ?na (And.intro ?e ?_)))); (case cl => assumption); (case na => assumption); (case e => exact rfl))
  | ((refine' Exists.intro _ (Exists.intro _ (Exists.intro _ (Exists.intro _ (And.intro ?e (And.intro ?hm (And.intro ?cl (And.intro ?na (And.intro ?l ?_))))))))); (case e => exact rfl); (case hm => walk_at "m"); (case cl => assumption); (case na => assumption); (case l => exact Nat.le_of_ble_eq_true rfl)))
local macro_rules | `(tactic| walk_at "g") => `(tactic| repeat (first | walk_at "s1" | walk_at "s2" | walk_at "sx" | walk_at "g1" | walk_at "g2"))

section
variable {P : Program} {w : World} {K : PySem.W.Frag} {mg : Str → Option Value} {base : Heap} {a : Ads}
/-! ### one change -/
def GV (B : Nat) (i : Nat) (v : D) : Prop := (i = 1 ∧ ∃ y, v = .str y ∧ nameB y = true) ∨ (i = 2 ∧ ∃ a : Int, v = .int a ∧ a.natAbs < B)
/-- what may stand in the list at i: a name, a pair of names, a name and a rank -/
def GD (B : Nat) (i : Nat) (d : D) : Prop := (i = 0 ∧ ∃ x, d = .str x ∧ nameB x = true) ∨ ∃ s v, d = .tup [.str s, v] ∧ nameB s = true ∧ GV B i v
def GL (B : Nat) (i : Nat) (l : List D) : Prop := l.length ≤ 9 ∧ ∀ d ∈ l, GD B i d
theorem GV.up {B C i v} (h : GV B i v) (c : B ≤ C) : GV C i v := by
  rcases h with h | ⟨e, a, e2, ha⟩
  · exact .inl h
  · exact .inr ⟨e, a, e2, by omega⟩
theorem GD.up {B C i d} (h : GD B i d) (c : B ≤ C) : GD C i d := by
  rcases h with h | ⟨s, v, e, hs, hv⟩
  · exact .inl h
  · exact .inr ⟨s, v, e, hs, hv.up c⟩
theorem GL.up {B C i l} (h : GL B i l) (c : B ≤ C) : GL C i l := ⟨h.1, fun d hd => (h.2 d hd).up c⟩
theorem GL.erase {B i l} (h : GL B i l) (j : Nat) : GL B i (l.eraseIdx j) := ⟨Nat.le_trans (List.length_eraseIdx_le l j) h.1, fun d hd => h.2 d (List.mem_of_mem_eraseIdx hd)⟩
theorem GL.rev {B i l} (h : GL B i l) : GL B i l.reverse := ⟨by rw [List.length_reverse]; exact h.1, fun d hd => h.2 d (List.mem_reverse.mp hd)⟩
theorem GL.set {B i l} (h : GL B i l) {j : Nat} {x : D} (hx : GD B i x) : GL B i (l.set j x) := ⟨by rw [List.length_set]; exact h.1, fun d hd => by
  rcases List.mem_or_eq_of_mem_set hd with q | rfl
  · exact h.2 d q
  · exact hx⟩
theorem GD.zero {B d} (h : GD B 0 d) : ∃ x, d = .str x ∧ nameB x = true := by
  rcases h with ⟨_, h⟩ | ⟨s, v, _, _, ⟨e, _⟩ | ⟨e, _⟩⟩
  · exact h
  · cases e
  · cases e
theorem GD.pair {B i d} (h : GD B i d) (hi : i ≠ 0) : ∃ s v, d = .tup [.str s, v] ∧ nameB s = true ∧ GV B i v := h.elim (fun q => absurd q.1 hi) id
theorem lift_all {α : Type} {f : α → D} {P : α → Prop} : ∀ {l : List D}, (∀ d ∈ l, ∃ x, d = f x ∧ P x) → ∃ xs : List α, l = xs.map f ∧ ∀ x ∈ xs, P x
  | [], _ => ⟨[], rfl, fun x hx => nomatch hx⟩
  | d :: l, h => by
    obtain ⟨x, rfl, hx⟩ := h d List.mem_cons_self
    obtain ⟨xs, rfl, hxs⟩ := lift_all (f := f) (P := P) (l := l) fun y hy => h y (List.mem_cons_of_mem _ hy)
    exact ⟨x :: xs, rfl, fun y hy => by
      rcases List.mem_cons.mp hy with rfl | hy
      · exact hx
      · exact hxs y hy⟩
/-- parts of a rule, some names perhaps alike -/
structure Cn (e : List Str) (k : List (Str × Str)) (r : List (Str × Int)) : Prop where
  en : ∀ x ∈ e, nameB x = true
  kn : ∀ p ∈ k, nameB p.1 = true ∧ nameB p.2 = true
  rn : ∀ p ∈ r, nameB p.1 = true ∧ p.2.natAbs < 10 ^ 24
  el : e.length ≤ 9
  kl : k.length ≤ 9
  rl : r.length ≤ 9
/-- three lists of these kinds -/
abbrev G3 (B : Nat) (L : List (List D)) : Prop := L.length = 3 ∧ ∀ i l, L[i]? = some l → GL B i l
theorem G3.set {B L} (h : G3 B L) {i : Nat} {l : List D} (hl : GL B i l) : G3 B (L.set i l) := ⟨by rw [List.length_set]; exact h.1, fun j x hx => by
  by_cases e : i = j
  · subst e
    by_cases hi : i < L.length
    · rw [List.getElem?_set_self hi] at hx
      cases hx; exact hl
    · rw [List.getElem?_eq_none (by rw [List.length_set]; omega)] at hx
      cases hx
  · rw [List.getElem?_set_ne e] at hx
    exact h.2 j x hx⟩
theorem G3.cn {L} (h : G3 (10 ^ 24) L) : ∃ e k r, L = [e.map .str, k.map kpD, r.map rpD] ∧ Cn e k r := by
  obtain ⟨hl, hg⟩ := h
  match L, hl with
  | [A, B, C], _ =>
    have gA := hg 0 A rfl
    have gB := hg 1 B rfl
    have gC := hg 2 C rfl
    obtain ⟨e, rfl, he⟩ := lift_all (f := D.str) (P := fun x => nameB x = true) fun d hd => (gA.2 d hd).zero
    obtain ⟨k, rfl, hk⟩ := lift_all (f := kpD) (P := fun p => nameB p.1 = true ∧ nameB p.2 = true) fun d hd => by
      obtain ⟨s, v, rfl, hs, ⟨_, y, rfl, hy⟩ | ⟨e, _⟩⟩ := (gB.2 d hd).pair (by decide)
      · exact ⟨(s, y), rfl, hs, hy⟩
      · cases e
    obtain ⟨r, rfl, hr⟩ := lift_all (f := rpD) (P := fun p => nameB p.1 = true ∧ p.2.natAbs < 10 ^ 24) fun d hd => by
      obtain ⟨s, v, rfl, hs, ⟨e, _⟩ | ⟨_, a, rfl, ha⟩⟩ := (gC.2 d hd).pair (by decide)
      · cases e
      · exact ⟨(s, a), rfl, hs, ha⟩
    exact ⟨e, k, r, rfl, he, hk, hr, by simpa using gA.1, by simpa using gB.1, by simpa using gC.1⟩
theorem GL.nb {B i l} (h : GL B i l) : (D.lst l).nb 2 = true := by
  show l.all (D.nb 1) = true
  rw [List.all_eq_true]
  intro d hd
  rcases h.2 d hd with ⟨_, x, rfl, hx⟩ | ⟨s, v, rfl, hs, ⟨_, y, rfl, hy⟩ | ⟨_, a, rfl, _⟩⟩
  · exact name_ok hx
  · show (PyData.strOk s && (PyData.strOk y && true)) = true
    rw [name_ok hs, name_ok hy]; rfl
  · show (PyData.strOk s && (true && true)) = true
    rw [name_ok hs]; rfl
theorem ixN_at {n i : Nat} (h : i < n) : ixN n ((i : Nat) : Int) = some i := by
  unfold ixN
  rw [if_pos (by omega), if_pos (by omega), Int.toNat_natCast]
theorem nameQ {w : Str} (h : nameB w = true) : nameB (cutS (w ++ ("q" : Str)) (some (-8)) none) = true := by
  have h8 := nameB_len h
  have h2 := h
  unfold nameB at h2
  rw [Bool.and_eq_true, Bool.and_eq_true] at h2
  have h1 : 1 ≤ w.length := of_decide_eq_true h2.1.1
  have hc : ∀ c ∈ w.cps.toList, c ∈ LET.cps.toList := fun c hc => of_decide_eq_true (List.all_eq_true.mp h2.2 c hc)
  have e : (w ++ ("q" : Str)).cps.toList = w.cps.toList ++ [113] := by rw [app_cps]; rfl
  have hl : w.cps.toList.length = w.length := by simp [Str.length]
  have hn : (w ++ ("q" : Str)).length = w.length + 1 := by
    have : (w ++ ("q" : Str)).length = (w ++ ("q" : Str)).cps.toList.length := by simp [Str.length]
    rw [this, e, List.length_append, hl]
    rfl
  have ex : (cutS (w ++ ("q" : Str)) (some (-8)) none).cps.toList = (w.cps.toList ++ [113]).drop (w.length + 1 - 8) := by
    unfold cutS
    rw [HT.sIx_none, hn, e]
    have es : HT.sIx (w.length + 1) 0 (some (-8)) = w.length + 1 - 8 := by
      show (if (-8 : Int) < 0 then ((-8 : Int) + ((w.length + 1 : Nat) : Int)).toNat else min (-8 : Int).toNat (w.length + 1)) = _
      rw [if_pos (by decide)]
      omega
    rw [es, List.toList_toArray]
    exact List.take_of_length_le (by rw [List.length_drop, List.length_append, hl, List.length_singleton]; omega)
  refine name_of ex ?_ ?_ fun c hc2 => ?_
  · rw [List.length_drop, List.length_append, hl, List.length_singleton]; omega
  · rw [List.length_drop, List.length_append, hl, List.length_singleton]; omega
  · rcases List.mem_append.mp (List.mem_of_mem_drop hc2) with q | q
    · exact hc c q
    · rw [List.mem_singleton] at q
      subst q
      decide +kernel
theorem app_q_len (w : Str) : (w ++ ("q" : Str)).length = w.length + 1 := by
  have : (w ++ ("q" : Str)).length = (w ++ ("q" : Str)).cps.toList.length := by simp [Str.length]
  rw [this, app_cps, List.length_append]
  show w.cps.toList.length + 1 = w.cps.size + 1
  rw [Array.length_toList]
theorem six_at {j n : Nat} (h : j < n) : seqIndex? (j : Int) n = some j := by
  have h1 : ¬ ((j : Int) < 0) := by omega
  have h2 : (j : Int) < (n : Int) := by omega
  simp [seqIndex?, h1, h]
theorem mw_popAt {K : PySem.W.Frag} {m m' : Mem} {Q : D → Mem → Prop} {p : Addr} {ds : List D} {j : Nat} {d : D} (hm : MUp m p (.lst ds) (.lst (ds.eraseIdx j)) m') (e : ds[j]? = some d) (hl : ds.length ≤ 1000) (q : Q d m') : MW K rPopAt (.adr p) [.int (j : Nat)] m Q := fun H v vs M a b QQ k => by
  obtain ⟨i, hm, em⟩ := hm
  subst em
  cases a
  cases b with
  | cons b1 b2 =>
    cases b1
    cases b2
    obtain ⟨xs, ex, r⟩ := cell_at M hm
    obtain ⟨y, hy, ry⟩ := r.get e
    have hj := (List.getElem?_eq_some_iff.mp e).1
    have rd : RdL K (hide m H) (xs.eraseIdx j) (ds.eraseIdx j) := by
      rw [List.eraseIdx_eq_take_drop_succ, List.eraseIdx_eq_take_drop_succ]
      exact (r.take _).append (r.drop _)
    obtain ⟨M2, s2⟩ := set_cell (c' := .lst (ds.eraseIdx j)) (o := .lst (xs.eraseIdx j)) M hm ⟨_, upd_same, rd⟩
    have hx : xs.length = ds.length := r.length
    exact ⟨p, xs, (j : Nat), j, y, rfl, rfl, ex, by omega, by omega, by rw [hx]; exact six_at hj, hy, k d _ y _ q s2 M2 (ry.mono s2)⟩
theorem four4 {a : Int} {r : Nat} (h : (r : Int) < 4) (ha : a.natAbs < 10 ^ 20) : ∃ v : Int, v.natAbs < 10 ^ 24 ∧ L2.atI [D.int 0, .int (a + 1), .int (0 - a), .int (a + 10 ^ Int.toNat 18)] ((r : Nat) : Int) = some (.int v) := by
  have e : (10 : Int) ^ Int.toNat 18 = 1000000000000000000 := by decide
  rw [e]
  rcases (by omega : r = 0 ∨ r = 1 ∨ r = 2 ∨ r = 3) with rfl | rfl | rfl | rfl
  · exact ⟨0, by decide, rfl⟩
  · exact ⟨a + 1, by omega, rfl⟩
  · exact ⟨0 - a, by omega, rfl⟩
  · exact ⟨a + 1000000000000000000, by omega, rfl⟩
def F_changed : FS := fun ds m Q => ∃ (p : Addr) (c : Cell) (rest : Mem) (n : Nat) (e : List Str) (k : List (Str × Str)) (r : List (Str × Int)), ds = [.adr p, planD e k r] ∧ m = (p, c) :: rest ∧ Kit n c ∧ n + 60 < 2 ^ 40 ∧ Cn e k r ∧ (∀ p ∈ r, p.2.natAbs < 10 ^ 20) ∧
  ∀ e' k' r' (c' : Cell), Cn e' k' r' → Kit (n + 60) c' → Q (planD e' k' r') ((p, c') :: rest)
theorem ok__law_changed (T : Txt K mg a) : Def P w K mg base 3 a.f__law_changed ["kit", "drawn"] (FSn 2 (F_changed)) := by
  have nd := sc__law_changed.nd
  have C__law_toss := ok__law_toss (P := P) (w := w) (base := base) T
  refine defOk T.h__law_changed sc__law_changed (fun _ _ _ h => h.1) (fun cdv A outer s H E hr => by exact (pss_cons (ps_par (i := 2) (j := 3) rfl nd rfl rfl (by decide) rfl rfl (pa_cons (pe_lc (own := [("some", 11)]) (g := (gName 11)) (tt := tYes) rfl nd (kx_pi K rfl (pv 1)) (blkOk_by (own := [("some", 11)]) (N := N__law_changed) (sc := defScope s__law_changed) (by decide +kernel)) (fun _ _ _ _ _ => (pg_name (i := 11) nd rfl (by first | exact Or.inl rfl | exact Or.inr rfl))) (fun _ _ _ _ _ => pts_nil) (fun _ _ _ _ _ => (pe_callTy (kx_list K rfl) (by rfl) T.n_list (by decide +kernel) (pa_cons (pv 11) pa_nil)))) (pa_cons (kx_def K rfl C__law_toss (hr.mono (by decide)) rfl T.g__law_toss T.k__law_toss (pa_cons (pv 0) (pa_cons pe_int pa_nil))) pa_nil)) (by rfl))
    (pss_cons (ps_set (i := 4) nd rfl (Or.inl rfl) (kx_def K rfl C__law_toss (hr.mono (by decide)) rfl T.g__law_toss T.k__law_toss (pa_cons (pv 0) (pa_cons pe_int pa_nil))))
    (pss_cons (ps_if (pt_cmpR (kx_eqU K rfl hr.units) (pe_ix (kx_ix K rfl hr.units) (pv 2) (pv 4) (fun _ _ => rfl)) (pe_lst pa_nil) (nomark _)) (pss_one (ps_ret (pv 1))) pss_nil)
    (pss_cons (ps_set (i := 5) nd rfl (Or.inl rfl) (kx_def K rfl C__law_toss (hr.mono (by decide)) rfl T.g__law_toss T.k__law_toss (pa_cons (pv 0) (pa_cons (pe_callB (kx_len K rfl) (by rfl) T.n_len (by decide +kernel) (pa_cons (pe_ix (kx_ix K rfl hr.units) (pv 2) (pv 4) (fun _ _ => rfl)) pa_nil)) pa_nil))))
    (pss_cons (ps_if (pt_cmpR (kx_eqU K rfl hr.units) (pv 3) pe_int (nomark _)) (pss_one (ps_expr (kx_bm K rfl PySem.F.plainAttrs_list PySem.F.slot_list_pop PySem.F.type_list_pop mt_popAt (pe_ix (kx_ix K rfl hr.units) (pv 2) (pv 4) (fun _ _ => rfl)) (pa_cons (pv 5) pa_nil)))) (pss_one (ps_if (pt_cmpR (kx_eqU K rfl hr.units) (pv 3) pe_int (nomark _)) (pss_one (ps_asg (kx_revL K rfl (pe_ix (kx_ix K rfl hr.units) (pv 2) (pv 4) (fun _ _ => rfl))) (pg_sub (pv 2) (pv 4) set_list))) (pss_one (ps_if (pt_cmpR (kx_eqU K rfl hr.units) (pv 4) pe_int (nomark _)) (pss_one (ps_asg (pe_slice (kx_sl K rfl) (pe_op op_addU (pe_ix (kx_ix K rfl hr.units) (pe_ix (kx_ix K rfl hr.units) (pv 2) (pv 4) (fun _ _ => rfl)) (pv 5) (fun _ _ => rfl)) pe_str) (po_some (pe_un un_neg pe_int)) po_none) (pg_sub (pe_ix (kx_ix K rfl hr.units) (pv 2) (pv 4) (fun _ _ => rfl)) (pv 5) set_list))) (pss_one (ps_if (pt_cmpR (kx_eqU K rfl hr.units) (pv 3) pe_int (nomark _)) (pss_cons (ps_set (i := 6) nd rfl (Or.inl rfl) (kx_def K rfl C__law_toss (hr.mono (by decide)) rfl T.g__law_toss T.k__law_toss (pa_cons (pv 0) (pa_cons (pe_callB (kx_len K rfl) (by rfl) T.n_len (by decide +kernel) (pa_cons (pe_ix (kx_ix K rfl hr.units) (pv 2) (pv 4) (fun _ _ => rfl)) pa_nil)) pa_nil))))
    (pss_cons (ps_par (i := 7) (j := 8) rfl nd rfl rfl (by decide) rfl rfl (pa_cons (pe_ix (kx_ix K rfl hr.units) (pe_ix (kx_ix K rfl hr.units) (pv 2) (pv 4) (fun _ _ => rfl)) (pv 5) (fun _ _ => rfl)) (pa_cons (pe_ix (kx_ix K rfl hr.units) (pe_ix (kx_ix K rfl hr.units) (pv 2) (pv 4) (fun _ _ => rfl)) (pv 6) (fun _ _ => rfl)) pa_nil)) (by rfl))
    (pss_cons (ps_asg (pe_tup (pa_cons (pe_ix (kx_ix K rfl hr.units) (pv 7) pe_int (fun _ _ => rfl)) (pa_cons (pe_ix (kx_ix K rfl hr.units) (pv 8) pe_int (fun _ _ => rfl)) pa_nil))) (pg_sub (pe_ix (kx_ix K rfl hr.units) (pv 2) (pv 4) (fun _ _ => rfl)) (pv 5) set_list))
    (pss_one (ps_asg (pe_tup (pa_cons (pe_ix (kx_ix K rfl hr.units) (pv 8) pe_int (fun _ _ => rfl)) (pa_cons (pe_ix (kx_ix K rfl hr.units) (pv 7) pe_int (fun _ _ => rfl)) pa_nil))) (pg_sub (pe_ix (kx_ix K rfl hr.units) (pv 2) (pv 4) (fun _ _ => rfl)) (pv 6) set_list)))))) (pss_one (ps_if (pt_cmpR op_lt (pv 3) pe_int (nomark _)) (pss_cons (ps_asg (pe_ix (kx_ix K rfl hr.units) (pe_ix (kx_ix K rfl hr.units) (pv 2) (pv 4) (fun _ _ => rfl)) (pv 5) (fun _ _ => rfl)) (kx_tup K rfl (n := 2) (by rfl) (pgs_cons (pg_name (i := 9) nd rfl (Or.inl rfl)) (pgs_cons (pg_name (i := 10) nd rfl (Or.inl rfl)) pgs_nil))))
    (pss_one (ps_if (pt_cmpR (kx_eqU K rfl hr.units) (pv 4) pe_int (nomark _)) (pss_one (ps_asg (pe_tup (pa_cons (pv 9) (pa_cons (pe_slice (kx_sl K rfl) (pe_op op_addU (pv 10) pe_str) (po_some (pe_un un_neg pe_int)) po_none) pa_nil))) (pg_sub (pe_ix (kx_ix K rfl hr.units) (pv 2) (pv 4) (fun _ _ => rfl)) (pv 5) set_list))) (pss_one (ps_asg (pe_tup (pa_cons (pv 9) (pa_cons (pe_ix (kx_ix K rfl hr.units) (pe_lst (pa_cons pe_int (pa_cons (pe_op op_addU (pv 10) pe_int) (pa_cons (pe_op op_sub pe_int (pv 10)) (pa_cons (pe_op op_addU (pv 10) (pe_op op_powW pe_int pe_int)) pa_nil))))) (kx_def K rfl C__law_toss (hr.mono (by decide)) rfl T.g__law_toss T.k__law_toss (pa_cons (pv 0) (pa_cons pe_int pa_nil))) (fun _ _ => rfl)) pa_nil))) (pg_sub (pe_ix (kx_ix K rfl hr.units) (pv 2) (pv 4) (fun _ _ => rfl)) (pv 5) set_list)))))) (pss_cons (ps_asg (pe_ix (kx_ix K rfl hr.units) (pe_ix (kx_ix K rfl hr.units) (pv 2) (pv 4) (fun _ _ => rfl)) (pv 5) (fun _ _ => rfl)) (kx_tup K rfl (n := 2) (by rfl) (pgs_cons (pg_name (i := 9) nd rfl (Or.inl rfl)) (pgs_cons (pg_name (i := 10) nd rfl (Or.inl rfl)) pgs_nil))))
    (pss_one (ps_asg (pe_tup (pa_cons (pe_slice (kx_sl K rfl) (pe_op op_addU (pv 9) pe_str) (po_some (pe_un un_neg pe_int)) po_none) (pa_cons (pv 10) pa_nil))) (pg_sub (pe_ix (kx_ix K rfl hr.units) (pv 2) (pv 4) (fun _ _ => rfl)) (pv 5) set_list)))))))))))))
    (pss_one (ps_ret (pe_tup (pa_cons (pe_ix (kx_ix K rfl hr.units) (pv 2) pe_int (fun _ _ => rfl)) (pa_cons (pe_ix (kx_ix K rfl hr.units) (pv 2) pe_int (fun _ _ => rfl)) (pa_cons (pe_ix (kx_ix K rfl hr.units) (pv 2) pe_int (fun _ _ => rfl)) pa_nil)))))))))))) (fun ds m Q h => ?_)
  replace h := h.2
  clear nd
  obtain ⟨p, c, rest, n, e, k, r, rfl, rfl, hk, hn, cn, rb, q⟩ := h
  have g0 : G3 (10 ^ 20) [e.map .str, k.map kpD, r.map rpD] := ⟨rfl, fun i l hl => by
    match i, hl with
    | 0, hl => cases hl; exact ⟨by rw [List.length_map]; exact cn.el, fun d hd => by obtain ⟨x, hx, rfl⟩ := List.mem_map.mp hd; exact .inl ⟨rfl, x, rfl, cn.en x hx⟩⟩
    | 1, hl => cases hl; exact ⟨by rw [List.length_map]; exact cn.kl, fun d hd => by obtain ⟨x, hx, rfl⟩ := List.mem_map.mp hd; exact .inr ⟨x.1, _, rfl, (cn.kn x hx).1, .inl ⟨rfl, x.2, rfl, (cn.kn x hx).2⟩⟩⟩
    | 2, hl => cases hl; exact ⟨by rw [List.length_map]; exact cn.rl, fun d hd => by obtain ⟨x, hx, rfl⟩ := List.mem_map.mp hd; exact .inr ⟨x.1, _, rfl, (cn.rn x hx).1, .inr ⟨rfl, x.2, rfl, rb x hx⟩⟩⟩
    | i + 3, hl => cases hl⟩
  have eP : planD e k r = .tup ([e.map .str, k.map kpD, r.map rpD].map .lst) := rfl
  have qd : ∀ c', Kit (n + 60) c' → Q (planD e k r) ((p, c') :: rest) := fun c' kc => q e k r c' cn kc
  walk_at "g"
  refine ew_cellsF (fun x => x) (tame_name (by decide)) (iw_any ?_)
  walk_at "g"
  refine ⟨_, .inr rfl, [e.map .str, k.map kpD, r.map rpD], by simp [lstF], le_sz (by show 3 ≤ _; decide), ?_, ?_⟩
  · intro b acc m' z hb
    walk_at "g"
    refine ⟨rfl, ?_⟩
    refine ew_listM ?_
    walk_at "g"
    exact ⟨_, .of, fun z2 => ⟨z2, rfl, rfl⟩⟩
  intro zs zt hzl
  clear eP
  generalize [e.map D.str, k.map kpD, r.map rpD] = L at g0 hzl
  have hL := g0.1
  have hzl3 : zs.length = 3 := by rw [hzl]; exact hL
  walk_at "g"
  rw [show (p, c) :: rest ++ cellsF (fun x => x) zs L ++ [(zt, Cell.lst (zs.map .adr))] = (p, c) :: (rest ++ cellsF (fun x => x) zs L ++ [(zt, Cell.lst (zs.map .adr))]) from rfl]
  refine tk3 hk fun way c1 h1 k1 => ?_
  walk_at "g"
  refine tk3 k1 (fun at_ c2 h2 k2 => ?_) (by omega)
  walk_at "g"
  have hat : at_ < 3 := by omega
  have atT : ∀ cc, MAt ((p, cc) :: (rest ++ cellsF (fun x => x) zs L ++ [(zt, Cell.lst (zs.map .adr))])) zt (.lst (zs.map .adr)) := fun cc => MAt.of_mem (x := (zt, Cell.lst (zs.map .adr))) (by simp)
  have hza : zs[at_]? = some (zs[at_]'(by omega)) := List.getElem?_eq_getElem (by omega)
  generalize zs[at_]'(by omega) = za at hza
  have hla : L[at_]? = some (L[at_]'(by omega)) := List.getElem?_eq_getElem (by omega)
  generalize L[at_]'(by omega) = l at hla
  have gl := g0.2 _ _ hla
  have hl9 := gl.1
  have cellA : ∀ cc, MAt ((p, cc) :: (rest ++ cellsF (fun x => x) zs L ++ [(zt, Cell.lst (zs.map .adr))])) za (.lst l) := fun cc => by
    have h := cellsF_at (f := fun x : D => x) hza hla
    unfold cellF at h
    rw [List.map_id'] at h
    exact .cons (.app (.pre ⟨at_, h⟩))
  have up : ∀ (l' : List D) (cc : Cell), MUp ((p, cc) :: (rest ++ cellsF (fun x => x) zs L ++ [(zt, Cell.lst (zs.map .adr))])) za (.lst l) (.lst l') ((p, cc) :: (rest ++ cellsF (fun x => x) zs (L.set at_ l') ++ [(zt, Cell.lst (zs.map .adr))])) := fun l' cc => by
    have h := cellsF_up (f := fun x : D => x) hza hla l'
    rw [List.map_id', List.map_id'] at h
    exact .cons (.app (.pre h))
  have atG : ∀ (l0 : List D) cc, MAt ((p, cc) :: (rest ++ cellsF (fun x => x) zs (L.set at_ l0) ++ [(zt, Cell.lst (zs.map .adr))])) zt (.lst (zs.map .adr)) := fun l0 cc => MAt.of_mem (x := (zt, Cell.lst (zs.map .adr))) (by simp)
  have upG : ∀ (l0 l' : List D) (cc : Cell), MUp ((p, cc) :: (rest ++ cellsF (fun x => x) zs (L.set at_ l0) ++ [(zt, Cell.lst (zs.map .adr))])) za (.lst l0) (.lst l') ((p, cc) :: (rest ++ cellsF (fun x => x) zs (L.set at_ l') ++ [(zt, Cell.lst (zs.map .adr))])) := fun l0 l' cc => by
    have h := cellsF_up (f := fun x : D => x) (G := L.set at_ l0) (r := l0) hza (by rw [List.getElem?_set_self (by omega)]) l'
    rw [List.map_id', List.map_id', List.set_set] at h
    exact .cons (.app (.pre h))
  refine sw_J (fun δ' m' => δ' = (((((startD N__law_changed.length [D.adr p, planD e k r]).set 2 (some (.adr zt))).set 3 (some (.int (way : Nat))))).set 4 (some (.int (at_ : Nat)))) ∧ m' = (p, c2) :: (rest ++ cellsF (fun x => x) zs L ++ [(zt, Cell.lst (zs.map .adr))]) ∧ 0 < l.length) (sw_if ?_) ?_
  · walk_at "g"
    refine oi_M (atT _) (at_map (f := D.adr) hza) ?_
    walk_at "g"
    refine ew_l0 ?_
    refine oq_eqR 2 (x := .adr za) (y := .lst []) (d := .lst l) (e := .lst []) (Res.seq (.at_ (cellA _)) (resL_fl (n := 1) (nb_fl 2 (.lst l) gl.nb))) (Res.fl (n := 1) rfl) gl.nb rfl fun b hb => ?_
    refine ⟨b, rfl, ?_⟩
    cases b with
    | true =>
      rw [if_pos rfl]
      refine sw_ret (ew_freeze (ew_var rfl ⟨(p, c2) :: rest, cellsF (fun x => x) zs L ++ [(zt, Cell.lst (zs.map .adr))], planD e k r, by rw [List.append_assoc]; exact .refl _, fun H v M x => x.mono (MemOk.dropG _ M).2, qd c2 (k2.up (by omega))⟩))
    | false =>
      rw [if_neg (by decide)]
      refine sw_next ⟨rfl, rfl, ?_⟩
      cases l with
      | nil => exact absurd (hb.mpr rfl) (by decide)
      | cons a l => exact Nat.succ_pos _
  rintro δ' m' ⟨rfl, rfl, hpos⟩
  walk_at "g"
  refine oi_M (atT _) (at_map (f := D.adr) hza) ?_
  walk_at "g"
  refine cq_len (.at_ (cellA _)) ?_
  walk_at "g"
  refine tk3 k2 (fun spot c3 h3 k3 => ?_) (by omega) (by omega) (by omega)
  walk_at "g"
  have hsp : spot < l.length := by omega
  have hls : l[spot]? = some (l[spot]'hsp) := List.getElem?_eq_getElem hsp
  have hgd : GD (10 ^ 20) at_ (l[spot]'hsp) := gl.2 _ (List.getElem_mem hsp)
  generalize l[spot]'hsp = d at hls hgd
  refine sw_ifJ (fun δ' m' => ∃ (L' : List (List D)) (c' : Cell) (xs : List D) (g : Mem), G3 (10 ^ 24) L' ∧ Kit (n + 60) c' ∧ δ'[2]? = some (some (.adr zt)) ∧ m' = (p, c') :: (rest ++ g) ∧ MAt m' zt (.lst xs) ∧ xs.length = 3 ∧ ∀ (i : Nat) (x : D) (y : List D), xs[i]? = some x → L'[i]? = some y → Lends K ((p, c') :: rest) g x (.lst y)) ?_ ?_
  rotate_left
  · rintro δ' m' ⟨L', c', xs, g, g', kc, e2, rfl, hz, hx3, ln⟩
    obtain ⟨e', k', r', rfl, cn'⟩ := g'.cn
    match xs, hx3 with
    | [x0, x1, x2], _ =>
      refine sw_ret (ew_freeze (ew_tup3 (ew_op (ew_var e2 (ew_int (oi_M hz rfl (ew_op (ew_var e2 (ew_int (oi_M hz rfl (ew_op (ew_var e2 (ew_int (oi_M hz rfl ⟨(p, c') :: rest, g, planD e' k' r', .refl _, fun H v M x => ?_, q e' k' r' c' cn' kc⟩))))))))))))))
      have sb := (MemOk.dropG _ M).2
      cases x with
      | tup e y =>
        cases y with
        | cons y1 y2 =>
          cases y2 with
          | cons y2 y3 =>
            cases y3 with
            | cons y3 y4 =>
              cases y4
              exact .tup (sb.sqt e) (.cons (ln 0 _ _ rfl rfl H _ M y1) (.cons (ln 1 _ _ rfl rfl H _ M y2) (.cons (ln 2 _ _ rfl rfl H _ M y3) .nil)))
  have ends : ∀ (δ' : List (Option D)) (cc : Cell) (l' : List D), Kit (n + 60) cc → GL (10 ^ 24) at_ l' → δ'[2]? = some (some (.adr zt)) → ∃ (L' : List (List D)) (c' : Cell) (xs : List D) (g : Mem), G3 (10 ^ 24) L' ∧ Kit (n + 60) c' ∧ δ'[2]? = some (some (.adr zt)) ∧ (p, cc) :: (rest ++ cellsF (fun x => x) zs (L.set at_ l') ++ [(zt, Cell.lst (zs.map .adr))]) = (p, c') :: (rest ++ g) ∧ MAt ((p, cc) :: (rest ++ cellsF (fun x => x) zs (L.set at_ l') ++ [(zt, Cell.lst (zs.map .adr))])) zt (.lst xs) ∧ xs.length = 3 ∧ ∀ (i : Nat) (x : D) (y : List D), xs[i]? = some x → L'[i]? = some y → Lends K ((p, c') :: rest) g x (.lst y) := fun δ' cc l' kc gl' e2 => by
    refine ⟨L.set at_ l', cc, zs.map .adr, cellsF (fun x => x) zs (L.set at_ l') ++ [(zt, Cell.lst (zs.map .adr))], G3.set ⟨g0.1, fun i x hx => (g0.2 i x hx).up (by decide)⟩ gl', kc, e2, by rw [List.append_assoc], MAt.of_mem (x := (zt, Cell.lst (zs.map .adr))) (by simp), by rw [List.length_map]; exact hzl3, fun i x y hx hy => ?_⟩
    obtain ⟨z, hz, rfl⟩ : ∃ z, zs[i]? = some z ∧ D.adr z = x := by
      rw [List.getElem?_map] at hx
      cases c : zs[i]? with
      | none => rw [c] at hx; cases hx
      | some z => rw [c] at hx; injection hx with hx; exact ⟨z, rfl, hx⟩
    have hc := cellsF_at (f := fun x : D => x) hz hy
    unfold cellF at hc
    rw [List.map_id'] at hc
    exact Lends.cell (c := .lst y) (List.mem_append_left _ (List.mem_of_getElem? hc)) rfl
  walk_at "g"
  refine iteD (fun h0 => ?_) (fun h0 => ?_)
  · walk_at "g"
    refine oi_M (atT _) (at_map (f := D.adr) hza) ?_
    refine ⟨ty_A (cellA _), ?_⟩
    walk_at "g"
    refine mw_popAt (up (l.eraseIdx spot) c3) hls (by omega) ?_
    exact ends _ c3 _ (k3.up (by omega)) ((gl.erase spot).up (by decide)) rfl
  refine sw_if ?_
  walk_at "g"
  refine iteD (fun h1 => ?_) (fun h1 => ?_)
  · refine sw_asgG (ew_revQ ?_)
    walk_at "g"
    refine oi_M (atT _) (at_map (f := D.adr) hza) ?_
    refine ⟨l, .at_ (cellA _), ?_⟩
    walk_at "g"
    have hupT : MUp ((p, c3) :: (rest ++ cellsF (fun x => x) zs L ++ [(zt, Cell.lst (zs.map .adr))])) zt (.lst (zs.map .adr)) (.lst ((zs.map D.adr).set at_ (.lst l.reverse))) ((p, c3) :: (rest ++ cellsF (fun x => x) zs L ++ [(zt, Cell.lst ((zs.map D.adr).set at_ (.lst l.reverse)))])) := .cons .last
    refine ⟨zt, _, _, at_, _, rfl, rfl, hupT, ixN_at (by rw [List.length_map]; omega), ?_⟩
    refine ⟨L.set at_ l.reverse, c3, (zs.map D.adr).set at_ (.lst l.reverse), cellsF (fun x => x) zs L ++ [(zt, Cell.lst ((zs.map D.adr).set at_ (.lst l.reverse)))], G3.set ⟨g0.1, fun i x hx => (g0.2 i x hx).up (by decide)⟩ (gl.rev.up (by decide)), k3.up (by omega), rfl, by rw [List.append_assoc], MAt.of_mem (x := (zt, Cell.lst ((zs.map D.adr).set at_ (.lst l.reverse)))) (by simp), by rw [List.length_set, List.length_map]; exact hzl3, fun i x y hx hy => ?_⟩
    by_cases e : at_ = i
    · subst e
      rw [List.getElem?_set_self (by rw [List.length_map]; omega)] at hx
      rw [List.getElem?_set_self (by omega)] at hy
      cases hx; cases hy
      exact Lends.same
    · rw [List.getElem?_set_ne e] at hx hy
      obtain ⟨z, hz, rfl⟩ : ∃ z, zs[i]? = some z ∧ D.adr z = x := by
        rw [List.getElem?_map] at hx
        cases c : zs[i]? with
        | none => rw [c] at hx; cases hx
        | some z => rw [c] at hx; injection hx with hx; exact ⟨z, rfl, hx⟩
      have hc := cellsF_at (f := fun x : D => x) hz hy
      unfold cellF at hc
      rw [List.map_id'] at hc
      exact Lends.cell (c := .lst y) (List.mem_append_left _ (List.mem_of_getElem? hc)) rfl
  refine sw_if ?_
  walk_at "g"
  refine iteD (fun h2 => ?_) (fun h2 => ?_)
  · obtain rfl : at_ = 0 := by omega
    obtain ⟨x, rfl, hx⟩ := hgd.zero
    have hn8 := nameB_len hx
    walk_at "g"
    refine oi_M (atT _) (at_map (f := D.adr) hza) ?_
    walk_at "g"
    refine oi_M (cellA _) (atI_lt (Int.natCast_nonneg _) (by rw [Int.toNat_natCast]; exact hls)) ?_
    walk_at "g"
    refine ow_addS (le_sz (by show x.length + 1 ≤ _; omega)) ?_
    walk_at "g"
    refine lw_S (le_sz (by rw [app_q_len]; omega)) ?_
    walk_at "g"
    refine oi_M (atT _) (at_map (f := D.adr) hza) ?_
    walk_at "g"
    refine ⟨za, _, _, spot, _, rfl, rfl, up _ c3, ixN_at hsp, ?_⟩
    exact ends _ c3 _ (k3.up (by omega)) ((gl.up (by decide)).set (.inl ⟨rfl, _, rfl, nameQ hx⟩)) rfl
  obtain ⟨s1, v1, rfl, hs1, hv1⟩ := hgd.pair (by omega)
  have hn8 := nameB_len hs1
  have atI : ∀ {j : Nat} {y : D} {ys : List D}, ys[j]? = some y → L2.atI ys ((j : Nat) : Int) = some y := fun {j y ys} h => atI_lt (Int.natCast_nonneg _) (by rw [Int.toNat_natCast]; exact h)
  refine sw_if ?_
  walk_at "g"
  refine iteD (fun h3 => ?_) (fun h3 => ?_)
  · walk_at "g"
    refine oi_M (atT _) (at_map (f := D.adr) hza) ?_
    walk_at "g"
    refine cq_len (.at_ (cellA _)) ?_
    walk_at "g"
    refine tk3 k3 (fun rank c4 h4 k4 => ?_) (by omega) (by omega) (by omega)
    have hrk : rank < l.length := by omega
    have hlr : l[rank]? = some (l[rank]'hrk) := List.getElem?_eq_getElem hrk
    obtain ⟨s2, v2, ed2, hs2, hv2⟩ := (gl.2 _ (List.getElem_mem hrk)).pair (by omega)
    rw [ed2] at hlr
    walk_at "g"
    refine oi_M (atT _) (at_map (f := D.adr) hza) ?_
    walk_at "g"
    refine oi_M (cellA _) (atI hls) ?_
    walk_at "g"
    refine oi_M (atT _) (at_map (f := D.adr) hza) ?_
    walk_at "g"
    refine oi_M (cellA _) (atI hlr) ?_
    walk_at "g"
    refine oi_M (atT _) (at_map (f := D.adr) hza) ?_
    walk_at "g"
    refine ⟨za, _, _, spot, _, rfl, rfl, up _ c4, ixN_at hsp, ?_⟩
    walk_at "g"
    refine oi_M (atG _ _) (at_map (f := D.adr) hza) ?_
    walk_at "g"
    refine ⟨za, _, _, rank, _, rfl, rfl, upG _ _ c4, ixN_at (by rw [List.length_set]; exact hrk), ?_⟩
    exact ends _ c4 _ (k4.up (by omega)) (((gl.up (by decide)).set (.inr ⟨s1, v2, rfl, hs1, hv2.up (by decide)⟩)).set (.inr ⟨s2, v1, rfl, hs2, hv1.up (by decide)⟩)) rfl
  refine sw_if ?_
  walk_at "g"
  refine iteD (fun h4 => ?_) (fun h4 => ?_)
  · walk_at "g"
    refine oi_M (atT _) (at_map (f := D.adr) hza) ?_
    walk_at "g"
    refine oi_M (cellA _) (atI hls) ?_
    walk_at "g"
    refine sw_if ?_
    walk_at "g"
    refine iteD (fun h5 => ?_) (fun h5 => ?_)
    · rcases hv1 with ⟨ea, y, rfl, hy⟩ | ⟨ea, _⟩
      rotate_left
      · exact absurd h5 (by omega)
      have hy8 := nameB_len hy
      walk_at "g"
      refine ow_addS (le_sz (by show y.length + 1 ≤ _; omega)) ?_
      walk_at "g"
      refine lw_S (le_sz (by rw [app_q_len]; omega)) ?_
      walk_at "g"
      refine oi_M (atT _) (at_map (f := D.adr) hza) ?_
      walk_at "g"
      refine ⟨za, _, _, spot, _, rfl, rfl, up _ c3, ixN_at hsp, ?_⟩
      exact ends _ c3 _ (k3.up (by omega)) ((gl.up (by decide)).set (.inr ⟨s1, _, rfl, hs1, .inl ⟨ea, _, rfl, nameQ hy⟩⟩)) rfl
    · rcases hv1 with ⟨ea, _⟩ | ⟨ea, a, rfl, ha⟩
      · exact absurd ea (by omega)
      walk_at "g"
      refine ew_l4 ?_
      walk_at "g"
      refine ow_ic ⟨by decide, by decide⟩ ?_
      walk_at "g"
      refine tk3 k3 (fun r5 c5 h6 k5 => ?_) (by omega)
      obtain ⟨v, hv, ev⟩ := four4 (a := a) h6 ha
      refine oi_L ev ?_
      walk_at "g"
      refine oi_M (atT _) (at_map (f := D.adr) hza) ?_
      walk_at "g"
      refine ⟨za, _, _, spot, _, rfl, rfl, up _ c5, ixN_at hsp, ?_⟩
      exact ends _ c5 _ (k5.up (by omega)) ((gl.up (by decide)).set (.inr ⟨s1, _, rfl, hs1, .inr ⟨ea, v, rfl, hv⟩⟩)) rfl
  · walk_at "g"
    refine oi_M (atT _) (at_map (f := D.adr) hza) ?_
    walk_at "g"
    refine oi_M (cellA _) (atI hls) ?_
    walk_at "g"
    refine ow_addS (le_sz (by show s1.length + 1 ≤ _; omega)) ?_
    walk_at "g"
    refine lw_S (le_sz (by rw [app_q_len]; omega)) ?_
    walk_at "g"
    refine oi_M (atT _) (at_map (f := D.adr) hza) ?_
    walk_at "g"
    refine ⟨za, _, _, spot, _, rfl, rfl, up _ c3, ixN_at hsp, ?_⟩
    exact ends _ c3 _ (k3.up (by omega)) ((gl.up (by decide)).set (.inr ⟨_, v1, rfl, nameQ hs1, hv1.up (by decide)⟩)) rfl

end
end DL

set_option Elab.async false
set_option linter.all false
set_option maxRecDepth 100000
set_option maxHeartbeats 4000000
set_option autoImplicit false
namespace DL
open PySem PySem.Spec PyProof.Rows L2
local macro_rules | `(tactic| walk_at "m") => `(tactic| first
  | with_reducible exact MAt.last | with_reducible exact MUp.last
  | exact MAt.zero | exact MUp.zero | exact MAt.last | exact MUp.last
  | (apply MAt.cons; walk_at "m") | (apply MUp.cons; walk_at "m")
  | (apply MAt.app; walk_at "m") | (apply MUp.app; walk_at "m")
  | assumption)
local macro_rules | `(tactic| walk_at "s1") => `(tactic| with_reducible first
  | refine sw_seq ?_ | refine sw_next ?_ | refine sw_ret ?_ | refine sw_retN ?_ | refine sw_asg ?_ | refine sw_asgG ?_ | refine sw_drop ?_ | refine sw_break ?_ | refine sw_cont ?_ | refine sw_par ?_ | refine sw_par3 ?_
  | refine tw_test ?_ | refine tw_B ?_ | refine tw_and ?_ | refine tw_or ?_ | refine tw_not ?_ | refine tw_yes ?_
  | refine ew_op ?_ | refine ew_un ?_ | refine ew_int ?_ | refine ew_non ?_ | refine ew_bl ?_ | refine ew_str ?_ | refine ew_ty ?_ | refine ew_ref ?_ | refine ew_cb ?_ | refine ew_if ?_ | refine ew_andV ?_ | refine ew_orV ?_ | refine ew_notV ?_ | refine ew_chain ?_ | refine ew_sl ?_ | refine pw_no ?_ | refine pw_part ?_
  | refine ew_call0 ?_ | refine ew_kw0 ?_
  | refine aw_nil ?_ | refine aw_cons ?_ | refine ew_bm ?_ | refine ew_bm0 ?_ | refine gs_L ?_
  | refine gs_nil ?_ | refine gs_cons ?_ | refine gw_name ?_
  | refine ow_addI ?_ | refine ow_odd ?_ | refine ow_i0 ?_ | refine ow_b0 ?_ | refine oq_eqI ?_ | refine oq_neI ?_ | refine oq_eqS ?_ | refine oq_neS ?_ | refine ow_isN ?_ | refine ow_notN ?_ | refine uw_neg ?_ | refine cw_int ?_ | refine cw_intB ?_ | refine cw_abs ?_ | refine cw_mx2 ?_ | refine cw_mn2 ?_ | refine cw_lenL ?_ | refine cw_lenR ?_ | refine cw_listL ?_ | refine cw_listT ?_ | refine lw_L ?_ | refine ew_revL ?_)
local macro_rules | `(tactic| walk_at "s2") => `(tactic| first
  | ((with_reducible refine' ew_var ?hv ?_); (case hv => exact rfl))
  | ((with_reducible refine' oi_M ?hm ?hi ?_); (case hm => walk_at "m"); (case hi => exact rfl))
  | ((with_reducible refine' ow_ixT ?hi ?_); (case hi => exact rfl))
  | ((with_reducible refine' cl_M ?hm ?_); (case hm => walk_at "m"))
  | ((with_reducible refine' ci_M ?hm ?_); (case hm => walk_at "m"))
  | ((with_reducible refine' ma_app ?hm ?ll ?_); (case hm => walk_at "m"); (case ll => walk_at "l"))
  | ((with_reducible refine' And.intro (ty_A ?hm) ?_); (case hm => walk_at "m"))
  | (with_reducible refine' Exists.intro _ (And.intro ?he ?_); (case he => exact rfl))
  | (with_reducible refine' Exists.intro _ (Exists.intro _ (And.intro ?he ?_)); (case he => exact rfl))
  | (with_reducible refine' Exists.intro _ (Exists.intro _ (Exists.intro _ (And.intro ?he ?_))); (case he => exact rfl))
  | ((with_reducible refine' Exists.intro _ (Exists.intro _ (Exists.intro _ (Exists.intro _ (Exists.intro _ (And.intro ?e1 (And.intro ?e2 (And.intro ?hm (And.intro ?hi ?_))))))))); (case e1 => exact rfl); (case e2 => exact rfl); (case hm => walk_at "m"); (case hi => exact rfl)))
local macro_rules | `(tactic| walk_at "l") => `(tactic| first | assumption | exact lt_sz (by omega) | exact lt_sz (by simp only [List.length_map, List.length_append, List.length_cons, List.length_nil, List.length_take, List.length_drop, List.length_range]; omega))
local macro_rules | `(tactic| walk_at "s") => `(tactic| repeat (first | walk_at "s1" | walk_at "s2"))
local macro_rules | `(tactic| walk_at "sx") => `(tactic| with_reducible first
  | refine swx_of ?_ | refine swx_seq ?_ | refine swx_drop ?_ | refine swx_asg ?_ | refine swx_ret ?_ | refine ewx_fun ?_ | refine ewx_meth ?_ | refine ewx_make ?_ | refine ewx_sub ?_)
local macro_rules | `(tactic| walk_at "s") => `(tactic| repeat (first | walk_at "s1" | walk_at "s2" | walk_at "sx"))
local macro_rules | `(tactic| walk_at "g1") => `(tactic| with_reducible first
  | refine ew_tup2 ?_ | refine ew_tup3 ?_ | refine ew_tup4 ?_ | refine ew_fldI ?_ | refine sw_fldA ?_ | refine ew_dget1 ?_ | refine ew_dget2 ?_ | refine ow_isN ?_)
local macro_rules | `(tactic| walk_at "g2") => `(tactic| first
  | ((with_reducible refine' gw_tup ?e ?_); (case e => exact rfl))
  | ((with_reducible refine' oi_L ?e ?_); (case e => exact rfl))
  | ((refine' Exists.intro _ (And.intro ?cl (And.intro ?na (And.intro ?e ?_)))); (case cl => assumption); (case na => assumption); (case e => exact rfl))
  | ((refine' Exists.intro _ (Exists.intro _ (Exists.intro _ (Exists.intro _ (And.intro ?e (And.intro ?hm (And.intro ?cl (And.intro ?na (And.intro ?l ?_))))))))); (case e => exact rfl); (case hm => walk_at "m"); (case cl => assumption); (case na => assumption); (case l => exact Nat.le_of_ble_eq_true rfl)))
local macro_rules | `(tactic| walk_at "g") => `(tactic| repeat (first | walk_at "s1" | walk_at "s2" | walk_at "sx" | walk_at "g1" | walk_at "g2"))

section
variable {P : Program} {w : World} {K : PySem.W.Frag} {mg : Str → Option Value} {base : Heap} {a : Ads}
/-! ### what a drawn dict is behind a write -/
def putL {α : Type} (l : List (Str × α)) (n : Str) (v : α) : List (Str × α) := if n ∈ l.map (·.1) then l.map (fun p => if p.1 = n then (p.1, v) else p) else l ++ [(n, v)]
theorem putL_fst {α : Type} (l : List (Str × α)) (n : Str) (v : α) : (putL l n v).map (·.1) = if n ∈ l.map (·.1) then l.map (·.1) else l.map (·.1) ++ [n] := by
  unfold putL
  split
  · rw [List.map_map]
    refine List.map_congr_left fun p _ => ?_
    show (if p.1 = n then (p.1, v) else p).1 = p.1
    split <;> rfl
  · rw [List.map_append]
    rfl
theorem putL_D {α : Type} (f : α → D) (l : List (Str × α)) (n : Str) (v : α) : putD (l.map fun p => (Sum.inr p.1, f p.2)) (.inr n) (f v) = (putL l n v).map fun p => (Sum.inr p.1, f p.2) := by
  have e : ((l.map fun p => ((Sum.inr p.1, f p.2) : Key × D)).any fun kv => decide (kv.1 = .inr n)) = decide (n ∈ l.map (·.1)) := by
    rw [Bool.eq_iff_iff, List.any_eq_true, decide_eq_true_eq, List.mem_map]
    constructor
    · rintro ⟨x, hx, h⟩
      obtain ⟨p, hp, rfl⟩ := List.mem_map.mp hx
      exact ⟨p, hp, by have := of_decide_eq_true h; injection this⟩
    · rintro ⟨p, hp, rfl⟩
      exact ⟨_, List.mem_map_of_mem hp, decide_eq_true rfl⟩
  unfold putD putL
  rw [e]
  by_cases h : n ∈ l.map (·.1)
  · rw [if_pos (decide_eq_true h), if_pos h, List.map_map, List.map_map]
    refine List.map_congr_left fun p _ => ?_
    show (if (Sum.inr p.1 : Key) = Sum.inr n then (Sum.inr p.1, f v) else (Sum.inr p.1, f p.2)) = ((Sum.inr (if p.1 = n then (p.1, v) else p).1, f (if p.1 = n then (p.1, v) else p).2) : Key × D)
    by_cases hp : p.1 = n
    · rw [if_pos (by rw [hp]), if_pos hp]
    · rw [if_neg (fun c => hp (by injection c)), if_neg hp]
  · rw [if_neg (by rw [decide_eq_false h]; decide), if_neg h, List.map_append]
    rfl
theorem putL_mem {α : Type} {l : List (Str × α)} {n : Str} {v : α} {p : Str × α} (h : p ∈ putL l n v) : p ∈ l ∨ p = (n, v) := by
  unfold putL at h
  split at h
  · obtain ⟨q, hq, rfl⟩ := List.mem_map.mp h
    by_cases hn : q.1 = n
    · rw [if_pos hn, hn]
      exact .inr rfl
    · rw [if_neg hn]
      exact .inl hq
  · rcases List.mem_append.mp h with h | h
    · exact .inl h
    · exact .inr (List.mem_singleton.mp h)
theorem nd_len : ∀ {l ws : List Str}, l.Nodup → (∀ x ∈ l, x ∈ ws) → l.length ≤ ws.length
  | [], _, _, _ => Nat.zero_le _
  | x :: l, ws, nd, h => by
    have nx := List.nodup_cons.mp nd
    have hx := h x List.mem_cons_self
    have := nd_len (l := l) (ws := ws.erase x) nx.2 fun y hy => (List.mem_erase_of_ne (fun e : y = x => nx.1 (e ▸ hy))).mpr (h y (List.mem_cons_of_mem _ hy))
    rw [List.length_erase_of_mem hx] at this
    have := List.length_pos_of_mem hx
    show l.length + 1 ≤ _
    omega
/-- the parts of a rule, as drawn over so many names -/
structure Dr (ws : List Str) (e : List Str) (k : List (Str × Str)) (r : List (Str × Int)) : Prop where
  ed : e.Nodup
  es : ∀ x ∈ e, x ∈ ws
  kd : (k.map (·.1)).Nodup
  ks : ∀ x ∈ k.map (·.1), x ∈ ws
  kv : ∀ p ∈ k, nameB p.2 = true
  rd : (r.map (·.1)).Nodup
  rs : ∀ x ∈ r.map (·.1), x ∈ ws
  rv : ∀ p ∈ r, p.2.natAbs < 10 ^ 20
theorem Dr.nil {ws} : Dr ws [] [] [] := ⟨List.nodup_nil, fun x h => (by cases h), List.nodup_nil, fun x h => (by cases h), fun x h => (by cases h), List.nodup_nil, fun x h => (by cases h), fun x h => (by cases h)⟩
theorem Dr.ok {ws e k r} (h : Dr ws e k r) (nm : ∀ x ∈ ws, nameB x = true) (wl : ws.length ≤ 10) : PlanOk e k r :=
  ⟨fun x hx => nm x (h.es x hx), h.ed, fun p hp => ⟨nm _ (h.ks _ (List.mem_map_of_mem hp)), h.kv p hp⟩, h.kd, fun p hp => ⟨nm _ (h.rs _ (List.mem_map_of_mem hp)), Nat.lt_trans (h.rv p hp) (by decide)⟩, h.rd,
    by have := nd_len h.ed h.es; omega, by have := nd_len h.kd h.ks; rw [List.length_map] at this; omega, by have := nd_len h.rd h.rs; rw [List.length_map] at this; omega⟩
theorem Dr.len {ws e k r} (h : Dr ws e k r) : e.length ≤ ws.length ∧ k.length ≤ ws.length ∧ r.length ≤ ws.length :=
  ⟨nd_len h.ed h.es, by have := nd_len h.kd h.ks; rwa [List.length_map] at this, by have := nd_len h.rd h.rs; rwa [List.length_map] at this⟩
theorem Dr.early {ws e k r} {l : Str} (h : Dr ws e k r) (hl : l ∈ ws) (hn : l ∉ e) : Dr ws (e ++ [l]) k r :=
  ⟨List.nodup_append.mpr ⟨h.ed, List.nodup_cons.mpr ⟨by simp, List.nodup_nil⟩, fun a ha b hb c => hn (by rw [List.mem_singleton.mp hb] at c; exact c ▸ ha)⟩, fun x hx => by
    rcases List.mem_append.mp hx with hx | hx
    · exact h.es x hx
    · rw [List.mem_singleton.mp hx]; exact hl, h.kd, h.ks, h.kv, h.rd, h.rs, h.rv⟩
theorem put_nd {α : Type} {l : List (Str × α)} {n : Str} {v : α} (nd : (l.map (·.1)).Nodup) : ((putL l n v).map (·.1)).Nodup := by
  rw [putL_fst]
  split
  · exact nd
  · rename_i hn
    exact List.nodup_append.mpr ⟨nd, List.nodup_cons.mpr ⟨by simp, List.nodup_nil⟩, fun a ha b hb c => hn (by rw [List.mem_singleton.mp hb] at c; exact c ▸ ha)⟩
theorem put_sub {α : Type} {l : List (Str × α)} {n : Str} {v : α} {ws : List Str} (h : ∀ x ∈ l.map (·.1), x ∈ ws) (hn : n ∈ ws) : ∀ x ∈ (putL l n v).map (·.1), x ∈ ws := fun x hx => by
  rw [putL_fst] at hx
  split at hx
  · exact h x hx
  · rcases List.mem_append.mp hx with hx | hx
    · exact h x hx
    · rw [List.mem_singleton.mp hx]; exact hn
theorem Dr.key {ws e k r} {l v : Str} (h : Dr ws e k r) (hl : l ∈ ws) (hv : nameB v = true) : Dr ws e (putL k l v) r :=
  ⟨h.ed, h.es, put_nd h.kd, put_sub h.ks hl, fun p hp => by
    rcases putL_mem hp with hp | rfl
    · exact h.kv p hp
    · exact hv, h.rd, h.rs, h.rv⟩
theorem Dr.rank {ws e k r} {l : Str} {v : Int} (h : Dr ws e k r) (hl : l ∈ ws) (hv : v.natAbs < 10 ^ 20) : Dr ws e k (putL r l v) :=
  ⟨h.ed, h.es, h.kd, h.ks, h.kv, put_nd h.rd, put_sub h.rs hl, fun p hp => by
    rcases putL_mem hp with hp | rfl
    · exact h.rv p hp
    · exact hv⟩

end
end DL

set_option Elab.async false
set_option linter.all false
set_option maxRecDepth 100000
set_option maxHeartbeats 4000000
set_option autoImplicit false
namespace DL
open PySem PySem.Spec PyProof.Rows L2
local macro_rules | `(tactic| walk_at "m") => `(tactic| first
  | with_reducible exact MAt.last | with_reducible exact MUp.last
  | exact MAt.zero | exact MUp.zero | exact MAt.last | exact MUp.last
  | (apply MAt.cons; walk_at "m") | (apply MUp.cons; walk_at "m")
  | (apply MAt.app; walk_at "m") | (apply MUp.app; walk_at "m")
  | assumption)
local macro_rules | `(tactic| walk_at "s1") => `(tactic| with_reducible first
  | refine sw_seq ?_ | refine sw_next ?_ | refine sw_ret ?_ | refine sw_retN ?_ | refine sw_asg ?_ | refine sw_asgG ?_ | refine sw_drop ?_ | refine sw_break ?_ | refine sw_cont ?_ | refine sw_par ?_ | refine sw_par3 ?_
  | refine tw_test ?_ | refine tw_B ?_ | refine tw_and ?_ | refine tw_or ?_ | refine tw_not ?_ | refine tw_yes ?_
  | refine ew_op ?_ | refine ew_un ?_ | refine ew_int ?_ | refine ew_non ?_ | refine ew_bl ?_ | refine ew_str ?_ | refine ew_ty ?_ | refine ew_ref ?_ | refine ew_cb ?_ | refine ew_if ?_ | refine ew_andV ?_ | refine ew_orV ?_ | refine ew_notV ?_ | refine ew_chain ?_ | refine ew_sl ?_ | refine pw_no ?_ | refine pw_part ?_
  | refine ew_call0 ?_ | refine ew_kw0 ?_
  | refine aw_nil ?_ | refine aw_cons ?_ | refine ew_bm ?_ | refine ew_bm0 ?_ | refine gs_L ?_
  | refine gs_nil ?_ | refine gs_cons ?_ | refine gw_name ?_
  | refine ow_addI ?_ | refine ow_odd ?_ | refine ow_i0 ?_ | refine ow_b0 ?_ | refine oq_eqI ?_ | refine oq_neI ?_ | refine oq_eqS ?_ | refine oq_neS ?_ | refine ow_isN ?_ | refine ow_notN ?_ | refine uw_neg ?_ | refine cw_int ?_ | refine cw_intB ?_ | refine cw_abs ?_ | refine cw_mx2 ?_ | refine cw_mn2 ?_ | refine cw_lenL ?_ | refine cw_lenR ?_ | refine cw_listL ?_ | refine cw_listT ?_ | refine lw_L ?_ | refine ew_revL ?_)
local macro_rules | `(tactic| walk_at "s2") => `(tactic| first
  | ((with_reducible refine' ew_var ?hv ?_); (case hv => exact rfl))
  | ((with_reducible refine' oi_M ?hm ?hi ?_); (case hm => walk_at "m"); (case hi => exact rfl))
  | ((with_reducible refine' ow_ixT ?hi ?_); (case hi => exact rfl))
  | ((with_reducible refine' cl_M ?hm ?_); (case hm => walk_at "m"))
  | ((with_reducible refine' ci_M ?hm ?_); (case hm => walk_at "m"))
  | ((with_reducible refine' ma_app ?hm ?ll ?_); (case hm => walk_at "m"); (case ll => walk_at "l"))
  | ((with_reducible refine' And.intro (ty_A ?hm) ?_); (case hm => walk_at "m"))
  | (with_reducible refine' Exists.intro _ (And.intro ?he ?_); (case he => exact rfl))
  | (with_reducible refine' Exists.intro _ (Exists.intro _ (And.intro ?he ?_)); (case he => exact rfl))
  | (with_reducible refine' Exists.intro _ (Exists.intro _ (Exists.intro _ (And.intro ?he ?_))); (case he => exact rfl))
  | ((with_reducible refine' Exists.intro _ (Exists.intro _ (Exists.intro _ (Exists.intro _ (Exists.intro _ (And.intro ?e1 (And.intro ?e2 (And.intro ?hm (And.intro ?hi ?_))))))))); (case e1 => exact rfl); (case e2 => exact rfl); (case hm => walk_at "m"); (case hi => exact rfl)))
local macro_rules | `(tactic| walk_at "l") => `(tactic| first | assumption | exact lt_sz (by omega) | exact lt_sz (by simp only [List.length_map, List.length_append, List.length_cons, List.length_nil, List.length_take, List.length_drop, List.length_range]; omega))
local macro_rules | `(tactic| walk_at "s") => `(tactic| repeat (first | walk_at "s1" | walk_at "s2"))
local macro_rules | `(tactic| walk_at "sx") => `(tactic| with_reducible first
  | refine swx_of ?_ | refine swx_seq ?_ | refine swx_drop ?_ | refine swx_asg ?_ | refine swx_ret ?_ | refine ewx_fun ?_ | refine ewx_meth ?_ | refine ewx_make ?_ | refine ewx_sub ?_)
local macro_rules | `(tactic| walk_at "s") => `(tactic| repeat (first | walk_at "s1" | walk_at "s2" | walk_at "sx"))
local macro_rules | `(tactic| walk_at "g1") => `(tactic| with_reducible first
  | refine ew_tup2 ?_ | refine ew_tup3 ?_ | refine ew_tup4 ?_ | refine ew_fldI ?_ | refine sw_fldA ?_ | refine ew_dget1 ?_ | refine ew_dget2 ?_ | refine ow_isN ?_)
local macro_rules | `(tactic| walk_at "g2") => `(tactic| first
  | ((with_reducible refine' gw_tup ?e ?_); (case e => exact rfl))
  | ((with_reducible refine' oi_L ?e ?_); (case e => exact rfl))
  | ((refine' Exists.intro _ (And.intro ?cl (And.intro ?na (And.intro ?e ?_)))); (case cl => assumption); (case na => assumption); (case e => exact rfl))
  | ((refine' Exists.intro _ (Exists.intro _ (Exists.intro _ (Exists.intro _ (And.intro ?e (And.intro ?hm (And.intro ?cl (And.intro ?na (And.intro ?l ?_))))))))); (case e => exact rfl); (case hm => walk_at "m"); (case cl => assumption); (case na => assumption); (case l => exact Nat.le_of_ble_eq_true rfl)))
local macro_rules | `(tactic| walk_at "g") => `(tactic| repeat (first | walk_at "s1" | walk_at "s2" | walk_at "sx" | walk_at "g1" | walk_at "g2"))

section
variable {P : Program} {w : World} {K : PySem.W.Frag} {mg : Str → Option Value} {base : Heap} {a : Ads}
theorem cq_tup {K : PySem.W.Frag} {m : Mem} {Q : D → Mem → Prop} {x : D} {ds : List D} (h : SeqIn m x ds) (q : Q (.tup ds) m) : CW K (rTupU K) [x] m Q := fun H vs M a QQ k => by
  cases a with
  | cons a n =>
    cases n
    obtain ⟨p, xs, rfl, e, r⟩ := h.get M a
    refine ⟨p, xs, rfl, .inl ⟨SqL.of e, fun z hz => ?_⟩⟩
    obtain ⟨M2, s2, r3⟩ := new_tup M r hz
    exact k _ m _ _ q s2 M2 r3
theorem mrg_nd : ∀ (more acc : List (Key × D)), ((acc ++ more).map Prod.fst).Nodup → mrgD acc more = acc ++ more
  | [], acc, _ => by simp [mrgD]
  | (k, v) :: more, acc, nd => by
    have hp : putD acc k v = acc ++ [(k, v)] := putD_new fun q hq e => by
      rw [List.map_append, List.map_cons] at nd
      exact (List.nodup_append.mp nd).2.2 q.1 (List.mem_map_of_mem hq) k (by simp) e
    have ih := mrg_nd more (acc ++ [(k, v)]) (by rw [List.append_assoc]; exact nd)
    unfold mrgD at ih ⊢
    rw [List.foldl_cons, hp, ih, List.append_assoc]
    rfl
theorem mrg_put {r : List (Str × Int)} (nd : (r.map (·.1)).Nodup) (z : Str) (v : Int) : mrgD [] ((r ++ [(z, v)]).map rrD) = (putL r z v).map rrD := by
  have e : mrgD [] (r.map rrD) = r.map rrD := by
    have := mrg_nd (r.map rrD) [] (by rw [List.nil_append, List.map_map]; exact nd_keys nd)
    rwa [List.nil_append] at this
  unfold mrgD at e ⊢
  rw [List.map_append, List.foldl_append, e]
  exact putL_D D.int r z v
theorem sort_nb {e : List Str} {k : List (Str × Str)} {r : List (Str × Int)} (o : PlanOk e k r) : (sortD e k r).nb 3 = true := by
  have h1 : (D.lst ((srtS e).map .str)).nb 2 = true := by
    show ((srtS e).map D.str).all (D.nb 1) = true
    rw [List.all_eq_true]
    intro x hx
    obtain ⟨y, hy, rfl⟩ := List.mem_map.mp hx
    exact name_ok (o.norm.en y hy)
  have h2 := kps_nb o.norm.kn
  have h3 := rps_nb o.norm.rn
  show (D.nb 2 _ && (D.nb 2 _ && (D.nb 2 _ && true))) = true
  rw [h1, h2, h3]
  rfl
theorem sort_inj {e e' : List Str} {k k' : List (Str × Str)} {r r' : List (Str × Int)} : sortD e k r = sortD e' k' r' ↔ srtS e = srtS e' ∧ nK k = nK k' ∧ nR r = nR r' := by
  refine ⟨fun h => ?_, fun h => by
    show D.lst [.lst ((srtS e).map .str), .lst ((nK k).map kpD), .lst ((nR r).map rpD)] = _
    rw [h.1, h.2.1, h.2.2]⟩
  injection h with h
  injection h with h1 h
  injection h with h2 h
  injection h with h3 _
  injection h1 with h1
  injection h2 with h2
  injection h3 with h3
  exact ⟨strD_inj h1, mapD_inj kpD_inj h2, mapD_inj rpD_inj h3⟩
/-- no name twice -/
structure Nd3 (e : List Str) (k : List (Str × Str)) (r : List (Str × Int)) : Prop where
  a : e.Nodup
  b : (k.map (·.1)).Nodup
  c : (r.map (·.1)).Nodup
def F_right (C : Addr) : FS := fun ds m Q => ∃ (p : Addr) (c : Cell) (n : Nat), ds = [.adr p] ∧ m = [(p, c)] ∧ Kit n c ∧ n + 400 < 2 ^ 40 ∧ ∀ c' : Cell, Kit (n + 400) c' → Q (.bl true) [(p, c')]
theorem ok__law_right (T : Txt K mg a) : DefG P w K mg base 8 a.f__law_right ["kit"] (FSn 1 (F_right a.c_Rule)) := by
  have nd := sc__law_right.nd
  have C__law_both_ways := ok__law_both_ways (P := P) (w := w) (base := base) T
  have C_Rule_ranks := ok_Rule_ranks (P := P) (w := w) (base := base) T
  have C_Rule_keyed := ok_Rule_keyed (P := P) (w := w) (base := base) T
  have C_Rule_early := ok_Rule_early (P := P) (w := w) (base := base) T
  have C_Rule___init__ := ok_Rule___init__ (P := P) (w := w) (base := base) T
  have C__law_sorted := ok__law_sorted (P := P) (w := w) (base := base) T
  have C__law_changed := ok__law_changed (P := P) (w := w) (base := base) T
  have C__law_drawn := ok__law_drawn (P := P) (w := w) (base := base) T
  refine defOkG T.h__law_right sc__law_right (fun _ _ _ h => h.1) (fun cdv A outer s H hg hr => by exact (pss_cons (ps_set (i := 1) nd rfl (Or.inl rfl) (kx_def K rfl C__law_drawn (hr.mono (by decide)) rfl T.g__law_drawn T.k__law_drawn (pa_cons (pv 0) pa_nil)))
    (pss_cons (ps_set (i := 2) nd rfl (Or.inl rfl) (kx_def K rfl C__law_changed (hr.mono (by decide)) rfl T.g__law_changed T.k__law_changed (pa_cons (pv 0) (pa_cons (pv 1) pa_nil))))
    (pss_cons (ps_for PassesOwn.never rfl (kx_pi K rfl (pe_tup (pa_cons (pv 1) (pa_cons (pv 2) pa_nil)))) (pg_name (i := 3) nd rfl (Or.inl rfl)) (pss_one (ps_for PassesOwn.never rfl (kx_pi K rfl (pe_slice (kx_slV K rfl) (pv 3) (po_some pe_int) po_none)) (pg_name (i := 4) nd rfl (Or.inl rfl)) (pss_one (ps_if (PW.pt (pw_or (pt_cmpR op_lt (kx_lenSetS K rfl rfl (by rfl) T.n_len (by rfl) T.n_set (pe_lc (own := [("duo", 11)]) (g := (gName 11)) (tt := tYes) rfl nd (kx_pi K rfl (pv 4)) (blkOk_by (own := [("duo", 11)]) (N := N__law_right) (sc := defScope s__law_right) (by decide +kernel)) (fun _ _ _ _ _ => (pg_name (i := 11) nd rfl (by first | exact Or.inl rfl | exact Or.inr rfl))) (fun _ _ _ _ _ => pts_nil) (fun _ _ _ _ _ => (pe_ix (kx_ix K rfl hr.units) (pv 11) pe_int (fun _ _ => rfl))))) (pe_callB (kx_len K rfl) (by rfl) T.n_len (by decide +kernel) (pa_cons (pv 4) pa_nil)) (nomark _)) (pw_or1 (pt_cmpR op_lt (kx_lenSetS K rfl rfl (by rfl) T.n_len (by rfl) T.n_set (pe_ix (kx_ix K rfl hr.units) (pv 3) pe_int (fun _ _ => rfl))) (pe_callB (kx_len K rfl) (by rfl) T.n_len (by decide +kernel) (pa_cons (pe_ix (kx_ix K rfl hr.units) (pv 3) pe_int (fun _ _ => rfl)) pa_nil)) (nomark _))))) (pss_one (ps_ret pe_bl)) pss_nil)))))
    (pss_cons (ps_set (i := 5) nd rfl (Or.inr rfl) (kx_make K rfl T.mk_Rule C_Rule___init__ (hr.mono (by decide)) rfl T.g_Rule (pa_cons (pe_ix (kx_ix K rfl hr.units) (pv 1) pe_int (fun _ _ => rfl)) (pa_cons (pe_callTy (kx_dictP K rfl rfl) (by rfl) T.n_dict (by decide +kernel) (pa_cons (pe_ix (kx_ix K rfl hr.units) (pv 1) pe_int (fun _ _ => rfl)) pa_nil)) (pa_cons (pe_callTy (kx_dictP K rfl rfl) (by rfl) T.n_dict (by decide +kernel) (pa_cons (pe_ix (kx_ix K rfl hr.units) (pv 1) pe_int (fun _ _ => rfl)) pa_nil)) pa_nil)))))
    (pss_cons (ps_set (i := 6) nd rfl (Or.inl rfl) (kx_make K rfl T.mk_Rule C_Rule___init__ (hr.mono (by decide)) rfl T.g_Rule (pa_cons (pe_callTy (kx_tupU K rfl) (by rfl) T.n_tuple (by decide +kernel) (pa_cons (pe_ix (kx_ix K rfl hr.units) (pv 2) pe_int (fun _ _ => rfl)) pa_nil)) (pa_cons (pe_callTy (kx_dictP K rfl rfl) (by rfl) T.n_dict (by decide +kernel) (pa_cons (kx_revL K rfl (pe_ix (kx_ix K rfl hr.units) (pv 2) pe_int (fun _ _ => rfl))) pa_nil)) (pa_cons (pe_callTy (kx_dictP K rfl rfl) (by rfl) T.n_dict (by decide +kernel) (pa_cons (pe_op op_addU (kx_revL K rfl (pe_ix (kx_ix K rfl hr.units) (pv 2) pe_int (fun _ _ => rfl))) (pe_lst (pa_cons (pe_tup (pa_cons pe_str (pa_cons pe_int pa_nil))) pa_nil))) pa_nil)) pa_nil)))))
    (pss_cons (ps_asg (pe_tup (pa_cons (pe_callB (kx_reprU K rfl hg (h66 hr)) (by rfl) T.n_repr (by decide +kernel) (pa_cons (pe_lst (pa_cons pe_bl (pa_cons pe_bl (pa_cons pe_bl (pa_cons pe_bl pa_nil))))) pa_nil)) (pa_cons (pe_callB (kx_reprU K rfl hg (h66 hr)) (by rfl) T.n_repr (by decide +kernel) (pa_cons (pe_lst (pa_cons pe_bl (pa_cons pe_bl (pa_cons pe_bl (pa_cons pe_bl pa_nil))))) pa_nil)) pa_nil))) (kx_tup K rfl (n := 2) (by rfl) (pgs_cons (pg_name (i := 7) nd rfl (Or.inl rfl)) (pgs_cons (pg_name (i := 8) nd rfl (Or.inr rfl)) pgs_nil))))
    (pss_cons (ps_if (pt_cmpR (kx_in K rfl P w rfl rfl hr.units) pe_str (pe_lc (own := [("duo", 11)]) (g := (gName 11)) (tt := tYes) rfl nd (kx_pi K rfl (pe_ix (kx_ix K rfl hr.units) (pv 2) pe_int (fun _ _ => rfl))) (blkOk_by (own := [("duo", 11)]) (N := N__law_right) (sc := defScope s__law_right) (by decide +kernel)) (fun _ _ _ _ _ => (pg_name (i := 11) nd rfl (by first | exact Or.inl rfl | exact Or.inr rfl))) (fun _ _ _ _ _ => pts_nil) (fun _ _ _ _ _ => (pe_ix (kx_ix K rfl hr.units) (pv 11) pe_int (fun _ _ => rfl)))) (by with_unfolding_all rfl)) (pss_one (ps_set (i := 6) nd rfl (Or.inl rfl) (kx_make K rfl T.mk_Rule C_Rule___init__ (hr.mono (by decide)) rfl T.g_Rule (pa_cons (pe_ix (kx_ix K rfl hr.units) (pv 2) pe_int (fun _ _ => rfl)) (pa_cons (pe_callTy (kx_dictP K rfl rfl) (by rfl) T.n_dict (by decide +kernel) (pa_cons (pe_ix (kx_ix K rfl hr.units) (pv 2) pe_int (fun _ _ => rfl)) pa_nil)) (pa_cons (pe_callTy (kx_dictP K rfl rfl) (by rfl) T.n_dict (by decide +kernel) (pa_cons (pe_ix (kx_ix K rfl hr.units) (pv 2) pe_int (fun _ _ => rfl)) pa_nil)) pa_nil)))))) pss_nil)
    (pss_cons (ps_if (pt_cmpR (kx_neU K rfl hr.units) (kx_defG K rfl hg C__law_both_ways (hr.mono (by decide)) rfl T.g__law_both_ways T.k__law_both_ways (pa_cons (pv 5) (pa_cons (pv 6) pa_nil))) (pe_ifExp (pt_cmpR (kx_eqU K rfl hr.units) (kx_def K rfl C__law_sorted (hr.mono (by decide)) rfl T.g__law_sorted T.k__law_sorted (pa_cons (pv 1) pa_nil)) (kx_def K rfl C__law_sorted (hr.mono (by decide)) rfl T.g__law_sorted T.k__law_sorted (pa_cons (pv 2) pa_nil)) (nomark _)) (pv 7) (pv 8)) (nomark _)) (pss_one (ps_ret pe_bl)) pss_nil)
    (pss_cons (ps_set (i := 9) nd rfl (Or.inl rfl) (kx_make K rfl T.mk_Rule C_Rule___init__ (hr.mono (by decide)) rfl T.g_Rule (pa_cons (kx_revL K rfl (pe_ix (kx_ix K rfl hr.units) (pv 1) pe_int (fun _ _ => rfl))) (pa_cons (pe_callTy (kx_dictP K rfl rfl) (by rfl) T.n_dict (by decide +kernel) (pa_cons (kx_revL K rfl (pe_ix (kx_ix K rfl hr.units) (pv 1) pe_int (fun _ _ => rfl))) pa_nil)) (pa_cons (pe_callTy (kx_dictP K rfl rfl) (by rfl) T.n_dict (by decide +kernel) (pa_cons (kx_revL K rfl (pe_ix (kx_ix K rfl hr.units) (pv 1) pe_int (fun _ _ => rfl))) pa_nil)) pa_nil)))))
    (pss_cons (ps_if (pt_cmpR (kx_neU K rfl hr.units) (kx_defG K rfl hg C__law_both_ways (hr.mono (by decide)) rfl T.g__law_both_ways T.k__law_both_ways (pa_cons (pv 5) (pa_cons (pv 9) pa_nil))) (pv 7) (nomark _)) (pss_one (ps_ret pe_bl)) pss_nil)
    (pss_cons (ps_set (i := 10) nd rfl (Or.inl rfl) (pe_lst (pa_cons pe_non (pa_cons pe_int (pa_cons pe_str (pa_cons (kx_prop K rfl (pv 5) T.cl_Rule T.p_Rule_early C_Rule_early (hr.mono (by decide)) rfl) (pa_cons (pe_tup (pa_cons (kx_prop K rfl (pv 5) T.cl_Rule T.p_Rule_early C_Rule_early (hr.mono (by decide)) rfl) (pa_cons (kx_prop K rfl (pv 5) T.cl_Rule T.p_Rule_keyed C_Rule_keyed (hr.mono (by decide)) rfl) (pa_cons (kx_prop K rfl (pv 5) T.cl_Rule T.p_Rule_ranks C_Rule_ranks (hr.mono (by decide)) rfl) pa_nil)))) (pa_cons (pe_callTy (kx_dictP K rfl rfl) (by rfl) T.n_dict (by decide +kernel) (pa_cons (pe_ix (kx_ix K rfl hr.units) (pv 1) pe_int (fun _ _ => rfl)) pa_nil)) (pa_cons (pe_lst (pa_cons (pv 5) pa_nil)) pa_nil)))))))))
    (pss_one (ps_ret (pe_cmpR (kx_eqU K rfl hr.units) (pe_lc (own := [("thing", 12)]) (g := (gName 12)) rfl nd (kx_pi K rfl (pv 10)) (blkOk_by (own := [("thing", 12)]) (N := N__law_right) (sc := defScope s__law_right) (by decide +kernel)) (fun _ _ _ _ _ => (pg_name (i := 12) nd rfl (by first | exact Or.inl rfl | exact Or.inr rfl))) (fun _ _ _ _ _ => (pts_one (pt_cmpR (kx_neU K rfl hr.units) (kx_defG K rfl hg C__law_both_ways (hr.mono (by decide)) rfl T.g__law_both_ways T.k__law_both_ways (pa_cons (pv 5) (pa_cons (pv 12) pa_nil))) (pv 8) (nomark _)))) (fun _ _ _ _ _ => pe_int)) (pe_lst pa_nil) (nomark _)))))))))))))))) (fun ds m Q h => ?_)
  replace h := h.2
  clear nd
  have gS := T.g_Rule
  have cl := T.cl_Rule
  obtain ⟨p, c, n, rfl, rfl, hk, hn, q⟩ := h
  refine sw_free ?_
  walk_at "g"
  refine ⟨rfl, p, c, [], n, rfl, rfl, hk, by omega, fun ws e k r c1 tg dn k1 => ?_⟩
  obtain ⟨ok, el, kl, rl⟩ := dn.ok tg
  have cn : Cn e k r := ⟨ok.en, ok.kn, fun p hp => ⟨(ok.rn p hp).1, by have := dn.rv p hp; omega⟩, el, kl, rl⟩
  walk_at "g"
  refine ⟨rfl, p, c1, [], _, e, k, r, rfl, rfl, k1, by omega, cn, dn.rv, fun e' k' r' c2 cn' k2 => ?_⟩
  walk_at "g"
  refine sw_forX (iw_any ?_)
  walk_at "g"
  refine ⟨_, .inr rfl, List Str × List (Str × Str) × List (Str × Int), [(e, k, r), (e', k', r')], fun t => planD t.1 t.2.1 t.2.2, rfl, fun j δ' m' => ∃ (x3 x4 : Option D), (∀ t ∈ [(e, k, r), (e', k', r')].take j, Nd3 t.1 t.2.1 t.2.2) ∧ δ' = ((((startD N__law_right.length [D.adr p]).set 1 (some (planD e k r))).set 2 (some (planD e' k' r'))).set 3 x3).set 4 x4 ∧ m' = [(p, c2)], ?_, ?_, ?_⟩
  · exact ⟨none, none, fun t ht => (by cases ht), rfl, rfl⟩
  · rintro j ⟨te, tk, tr⟩ δ' m' hj ⟨x3, x4, nd, rfl, rfl⟩
    have hm : Cn te tk tr := by
      have := List.mem_of_getElem? hj
      simp only [List.mem_cons, List.not_mem_nil, or_false, Prod.mk.injEq] at this
      rcases this with ⟨rfl, rfl, rfl⟩ | ⟨rfl, rfl, rfl⟩
      · exact cn
      · exact cn'
    have l1 := hm.el
    have l2 := hm.kl
    have l3 := hm.rl
    walk_at "g"
    refine sw_forX (iw_any ?_)
    walk_at "g"
    refine lw_VT (fun c => absurd (show HT.sIx 3 0 (some 1) = 0 from c.1) (by decide)) ?_
    refine ⟨_, .inr rfl, List (Str × D), [tk.map fun p => (p.1, .str p.2), tr.map fun p => (p.1, .int p.2)], fun ps => .lst (ps.map fun q => .tup [.str q.1, q.2]), ?_, fun i δ' m' => ∃ (x4 : Option D), (∀ ps ∈ [tk.map fun p => (p.1, D.str p.2), tr.map fun p => (p.1, D.int p.2)].take i, te.Nodup ∧ (ps.map (·.1)).Nodup) ∧ δ' = ((((startD N__law_right.length [D.adr p]).set 1 (some (planD e k r))).set 2 (some (planD e' k' r'))).set 3 (some (planD te tk tr))).set 4 x4 ∧ m' = [(p, c2)], ?_, ?_, ?_⟩
    · show [D.lst (tk.map kpD), .lst (tr.map rpD)] = _
      simp only [List.map_cons, List.map_nil, List.map_map]
      rfl
    · exact ⟨x4, fun t ht => (by cases ht), rfl, rfl⟩
    · rintro i ps δ' m' hi ⟨x4, nd2, rfl, rfl⟩
      have hp9 : ps.length ≤ 9 := by
        have := List.mem_of_getElem? hi
        simp only [List.mem_cons, List.not_mem_nil, or_false] at this
        rcases this with rfl | rfl
        · rw [List.length_map]; exact l2
        · rw [List.length_map]; exact l3
      walk_at "g"
      refine sw_if ?_
      walk_at "g"
      refine ew_lenSetS ?_
      refine ew_lcF (tame_name (by decide)) (iw_any ?_)
      walk_at "g"
      refine ⟨_, .inl rfl, Str × D, ps, fun q => .tup [.str q.1, q.2], fun q => .str q.1, rfl, le_sz (by omega), ?_, ?_⟩
      · rintro x acc z hx
        walk_at "g"
        refine ⟨rfl, ?_⟩
        walk_at "g"
        exact ⟨rfl, rfl⟩
      rw [show (ps.map fun q => D.str q.1) = (ps.map (·.1)).map .str by rw [List.map_map]; rfl]
      refine ⟨ps.map (·.1), .of, by rw [List.length_map]; omega, ?_⟩
      walk_at "g"
      refine iteD (fun h0 => ?_) (fun h0 => ?_)
      · rw [if_pos rfl]
        walk_at "g"
        exact ⟨_, .refl, q _ (k2.up (by omega))⟩
      walk_at "g"
      refine ew_lenSetS ?_
      walk_at "g"
      refine ⟨te, .of, by omega, ?_⟩
      walk_at "g"
      refine iteD (fun h1 => ?_) (fun h1 => ?_)
      · walk_at "g"
        exact ⟨_, .refl, q _ (k2.up (by omega))⟩
      walk_at "g"
      refine ⟨_, fun x hx => ?_, rfl, rfl⟩
      rw [List.length_map] at h0 h1
      have o1 := once_lt (ps.map (·.1))
      have o2 := once_lt te
      rw [List.length_map] at o1
      rw [List.take_add_one, hi] at hx
      rcases List.mem_append.mp hx with hx | hx
      · exact nd2 x hx
      · simp only [Option.toList_some, List.mem_singleton] at hx
        subst hx
        exact ⟨Classical.byContradiction fun z => h1 (by have := o2.mpr z; omega), Classical.byContradiction fun z => h0 (by have := o1.mpr z; omega)⟩
    · rintro δ' m' ⟨x4, nd2, rfl, rfl⟩
      refine ⟨_, x4, fun t ht => ?_, rfl, rfl⟩
      rw [List.take_add_one, hj] at ht
      rcases List.mem_append.mp ht with ht | ht
      · exact nd t ht
      · simp only [Option.toList_some, List.mem_singleton] at ht
        subst ht
        have n1 := nd2 _ (show tk.map (fun p => (p.1, D.str p.2)) ∈ _ from List.mem_cons_self)
        have n2 := nd2 _ (show tr.map (fun p => (p.1, D.int p.2)) ∈ _ from List.mem_cons_of_mem _ List.mem_cons_self)
        rw [List.map_map] at n1 n2
        exact ⟨n1.1, n1.2, n2.2⟩
  rintro δ' m' ⟨x3, x4, nd, rfl, rfl⟩
  have nd' : Nd3 e' k' r' := nd (e', k', r') (List.mem_cons_of_mem _ List.mem_cons_self)
  have okm : PlanOk e' k' r' := ⟨cn'.en, nd'.a, cn'.kn, nd'.b, fun p hp => ⟨(cn'.rn p hp).1, by have := (cn'.rn p hp).2; omega⟩, nd'.c, by have := cn'.el; omega, by have := cn'.kl; omega, by have := cn'.rl; omega⟩
  have el' := cn'.el
  have kl' := cn'.kl
  have rl' := cn'.rl
  have ndk : (k'.reverse.map (·.1)).Nodup := by rw [List.map_reverse]; exact (List.reverse_perm _).nodup_iff.mpr nd'.b
  have ndr : (r'.reverse.map (·.1)).Nodup := by rw [List.map_reverse]; exact (List.reverse_perm _).nodup_iff.mpr nd'.c
  have okz : PlanOk e' k'.reverse (putL r'.reverse "zero" 0) := by
    refine ⟨cn'.en, nd'.a, fun p hp => cn'.kn p (List.mem_reverse.mp hp), ndk, fun p hp => ?_, put_nd ndr, by omega, by rw [List.length_reverse]; omega, ?_⟩
    · rcases putL_mem hp with hp | rfl
      · exact okm.rn p (List.mem_reverse.mp hp)
      · exact ⟨by decide +kernel, by decide⟩
    · have := congrArg List.length (putL_fst r'.reverse "zero" (0 : Int))
      rw [List.length_map] at this
      rw [this]
      split
      · rw [List.length_map, List.length_reverse]; omega
      · rw [List.length_append, List.length_map, List.length_reverse]; show r'.length + 1 ≤ 20; omega
  have eK : nK k'.reverse = nK k' := nK_of nd'.b (List.reverse_perm k')
  have eR : ("zero" : Str) ∉ r'.map (·.1) → nR (putL r'.reverse "zero" 0) = nR r' := fun hz => by
    refine nR_of nd'.c (put_nd ndr) ?_
    unfold putL
    rw [if_neg (by rw [List.map_reverse]; exact fun h => hz (List.mem_reverse.mp h)), List.filter_append]
    rw [show [(("zero" : Str), (0 : Int))].filter (fun p => !decide (p.2 = 0)) = [] from rfl, List.append_nil]
    exact (List.reverse_perm r').filter _
  refine sw_seqJ (fun δ' m' => δ' = (((((startD N__law_right.length [D.adr p]).set 1 (some (planD e k r))).set 2 (some (planD e' k' r'))).set 3 x3).set 4 x4).set 5 (some (ruleD a.c_Rule (srtS e) (nK k) (nR r))) ∧ m' = [(p, c2)]) ?_ ?_
  · walk_at "g"
    refine ew_mid (fun x m1 => x = ruleOf a.c_Rule e k r ∧ m1 = [(p, c2)]) ?_ ?_
    · refine ew_make (dd := []) (fun F => .nil) ?_
      walk_at "g"
      refine dict_k ok.kd ?_
      walk_at "g"
      refine dict_r ok.rd ?_
      walk_at "g"
      intro z
      exact use_rule (Q := fun x m1 => x = ruleOf a.c_Rule e k r ∧ m1 = [(p, c2)]) (e := e) (k := k) (r := r) .of (.inl .of) (.inl .of) ok (And.intro rfl rfl)
    rintro x m1 ⟨rfl, rfl⟩
    walk_at "g"
    exact ⟨rfl, rfl⟩
  rintro δ' m' ⟨rfl, rfl⟩
  refine sw_seqJ (fun δ' m' => δ' = ((((((startD N__law_right.length [D.adr p]).set 1 (some (planD e k r))).set 2 (some (planD e' k' r'))).set 3 x3).set 4 x4).set 5 (some (ruleD a.c_Rule (srtS e) (nK k) (nR r)))).set 6 (some (ruleD a.c_Rule (srtS e') (nK k'.reverse) (nR (putL r'.reverse "zero" 0)))) ∧ m' = [(p, c2)]) ?_ ?_
  · walk_at "g"
    refine ew_mid (fun x m1 => x = ruleOf a.c_Rule e' k'.reverse (putL r'.reverse "zero" 0) ∧ m1 = [(p, c2)]) ?_ ?_
    · refine ew_make (dd := []) (fun F => .nil) ?_
      walk_at "g"
      refine cq_tup .of ?_
      walk_at "g"
      rw [← List.map_reverse]
      refine dict_k ndk ?_
      walk_at "g"
      refine ew_l1 ?_
      walk_at "g"
      refine ow_addL (le_sz (by rw [List.length_reverse, List.length_map]; show r'.length + 1 ≤ _; omega)) ?_
      rw [show (r'.map rpD).reverse ++ [D.tup [.str "zero", .int 0]] = ((r'.reverse ++ [(("zero" : Str), (0 : Int))]).map rrD).map pairKD by
        rw [List.map_map, ← List.map_reverse, List.map_append]; rfl]
      refine aw_nil (cw_dictG ?_)
      rw [mrg_put ndr]
      walk_at "g"
      intro z
      exact use_rule (Q := fun x m1 => x = ruleOf a.c_Rule e' k'.reverse (putL r'.reverse "zero" 0) ∧ m1 = [(p, c2)]) (e := e') (k := k'.reverse) (r := putL r'.reverse "zero" 0) (.inr rfl) (.inl .of) (.inl .of) okz (And.intro rfl rfl)
    rintro x m1 ⟨rfl, rfl⟩
    walk_at "g"
    exact ⟨rfl, rfl⟩
  rintro δ' m' ⟨rfl, rfl⟩
  refine sw_seqJ (fun δ' m' => δ' = ((((((((startD N__law_right.length [D.adr p]).set 1 (some (planD e k r))).set 2 (some (planD e' k' r'))).set 3 x3).set 4 x4).set 5 (some (ruleD a.c_Rule (srtS e) (nK k) (nR r)))).set 6 (some (ruleD a.c_Rule (srtS e') (nK k'.reverse) (nR (putL r'.reverse "zero" 0))))).set 7 (some (.str (bothT true)))).set 8 (some (.str (bothT false))) ∧ m' = [(p, c2)]) ?_ ?_
  · walk_at "g"
    refine ew_l4 ?_
    walk_at "g"
    refine cw_both (b := true) ?_
    walk_at "g"
    refine ew_l4 ?_
    walk_at "g"
    refine cw_both (b := false) ?_
    walk_at "g"
    exact ⟨rfl, rfl⟩
  rintro δ' m' ⟨rfl, rfl⟩
  refine sw_seqJ (fun δ' m' => δ' = ((((((((startD N__law_right.length [D.adr p]).set 1 (some (planD e k r))).set 2 (some (planD e' k' r'))).set 3 x3).set 4 x4).set 5 (some (ruleD a.c_Rule (srtS e) (nK k) (nR r)))).set 6 (some (ruleD a.c_Rule (srtS e') (nK k') (nR r')))).set 7 (some (.str (bothT true)))).set 8 (some (.str (bothT false))) ∧ m' = [(p, c2)]) (sw_if ?_) ?_
  · walk_at "g"
    refine ew_lcF (tame_name (by decide)) (iw_any ?_)
    walk_at "g"
    refine ⟨_, .inl rfl, Str × Int, r', rpD, fun q => .str q.1, rfl, le_sz (by omega), ?_, ?_⟩
    · rintro x acc z hx
      walk_at "g"
      refine ⟨rfl, ?_⟩
      walk_at "g"
      exact ⟨rfl, rfl⟩
    rw [show (r'.map fun q => D.str q.1) = (r'.map (·.1)).map .str by rw [List.map_map]; rfl]
    refine in_sL ?_
    refine ⟨_, rfl, ?_⟩
    refine iteD (fun hz => ?_) (fun hz => ?_)
    · walk_at "g"
      refine ew_mid (fun x m1 => x = ruleOf a.c_Rule e' k' r' ∧ m1 = [(p, c2)]) ?_ ?_
      · refine ew_make (dd := []) (fun F => .nil) ?_
        walk_at "g"
        refine dict_k nd'.b ?_
        walk_at "g"
        refine dict_r nd'.c ?_
        walk_at "g"
        intro z
        exact use_rule (Q := fun x m1 => x = ruleOf a.c_Rule e' k' r' ∧ m1 = [(p, c2)]) (e := e') (k := k') (r := r') .of (.inl .of) (.inl .of) okm (And.intro rfl rfl)
      rintro x m1 ⟨rfl, rfl⟩
      walk_at "g"
      exact ⟨rfl, rfl⟩
    · refine sw_next ⟨?_, rfl⟩
      rw [eK, eR hz]
  rintro δ' m' ⟨rfl, rfl⟩
  refine sw_seqJ (fun δ' m' => δ' = ((((((((startD N__law_right.length [D.adr p]).set 1 (some (planD e k r))).set 2 (some (planD e' k' r'))).set 3 x3).set 4 x4).set 5 (some (ruleD a.c_Rule (srtS e) (nK k) (nR r)))).set 6 (some (ruleD a.c_Rule (srtS e') (nK k') (nR r')))).set 7 (some (.str (bothT true)))).set 8 (some (.str (bothT false))) ∧ m' = [(p, c2)]) (sw_if ?_) ?_
  · walk_at "g"
    refine ⟨rfl, srtS e, nK k, nR r, _, rfl, ok.norm, .inl ⟨srtS e', nK k', nR r', rfl, okm.norm, fun b hb => ?_⟩⟩
    walk_at "g"
    refine ⟨rfl, e, k, r, rfl, ok, ?_⟩
    walk_at "g"
    refine ⟨rfl, e', k', r', rfl, okm, ?_⟩
    refine oq_eq 3 (sort_nb ok) (sort_nb okm) fun b2 hb2 => ?_
    obtain rfl : b2 = b := Bool.eq_iff_iff.mpr ((hb2.trans sort_inj).trans hb.symm)
    refine ⟨_, rfl, ?_⟩
    cases b2
    · rw [if_neg (by decide)]
      walk_at "g"
      rw [if_neg (by simp)]
      walk_at "g"
      exact ⟨rfl, rfl⟩
    · rw [if_pos rfl]
      walk_at "g"
      rw [if_neg (by simp)]
      walk_at "g"
      exact ⟨rfl, rfl⟩
  rintro δ' m' ⟨rfl, rfl⟩
  have ndk2 : (k.reverse.map (·.1)).Nodup := by rw [List.map_reverse]; exact (List.reverse_perm _).nodup_iff.mpr ok.kd
  have ndr2 : (r.reverse.map (·.1)).Nodup := by rw [List.map_reverse]; exact (List.reverse_perm _).nodup_iff.mpr ok.rd
  have okr : PlanOk e.reverse k.reverse r.reverse := ⟨fun x hx => ok.en x (List.mem_reverse.mp hx), (List.reverse_perm e).nodup_iff.mpr ok.ed, fun p hp => ok.kn p (List.mem_reverse.mp hp), ndk2, fun p hp => ok.rn p (List.mem_reverse.mp hp), ndr2, by rw [List.length_reverse]; omega, by rw [List.length_reverse]; omega, by rw [List.length_reverse]; omega⟩
  have er : ruleOf a.c_Rule e.reverse k.reverse r.reverse = ruleD a.c_Rule (srtS e) (nK k) (nR r) := by
    show ruleD a.c_Rule (srtS e.reverse) (nK k.reverse) (nR r.reverse) = _
    rw [← srtS_of (ws := e.reverse) (ys := srtS e) ((srtS_perm e).trans (List.reverse_perm e).symm) (srtS_srt e), nK_of ok.kd (List.reverse_perm k), nR_of ok.rd ndr2 ((List.reverse_perm r).filter _)]
  refine sw_seqJ (fun δ' m' => δ' = (((((((((startD N__law_right.length [D.adr p]).set 1 (some (planD e k r))).set 2 (some (planD e' k' r'))).set 3 x3).set 4 x4).set 5 (some (ruleD a.c_Rule (srtS e) (nK k) (nR r)))).set 6 (some (ruleD a.c_Rule (srtS e') (nK k') (nR r')))).set 7 (some (.str (bothT true)))).set 8 (some (.str (bothT false)))).set 9 (some (ruleD a.c_Rule (srtS e) (nK k) (nR r))) ∧ m' = [(p, c2)]) ?_ ?_
  · walk_at "g"
    refine ew_mid (fun x m1 => x = ruleOf a.c_Rule e.reverse k.reverse r.reverse ∧ m1 = [(p, c2)]) ?_ ?_
    · refine ew_make (dd := []) (fun F => .nil) ?_
      walk_at "g"
      rw [← List.map_reverse, ← List.map_reverse]
      refine dict_k ndk2 ?_
      walk_at "g"
      rw [← List.map_reverse]
      refine dict_r ndr2 ?_
      walk_at "g"
      intro z
      exact use_rule (Q := fun x m1 => x = ruleOf a.c_Rule e.reverse k.reverse r.reverse ∧ m1 = [(p, c2)]) (e := e.reverse) (k := k.reverse) (r := r.reverse) .of (.inl .of) (.inl .of) okr (And.intro rfl rfl)
    rintro x m1 ⟨rfl, rfl⟩
    rw [er]
    exact ⟨rfl, rfl⟩
  rintro δ' m' ⟨rfl, rfl⟩
  refine sw_seq (sw_if ?_)
  walk_at "g"
  refine ⟨rfl, srtS e, nK k, nR r, _, rfl, ok.norm, .inl ⟨srtS e, nK k, nR r, rfl, ok.norm, fun b hb => ?_⟩⟩
  obtain rfl : b = true := hb.mpr ⟨rfl, rfl, rfl⟩
  walk_at "g"
  rw [if_neg (by simp)]
  walk_at "g"
  refine ew_l7 ?_
  walk_at "g"
  refine ew_prop (ew_var rfl ⟨_, rfl, rfl, srtS e, nK k, nR r, rfl, ?_⟩)
  refine ew_tup3 ?_
  refine ew_prop (ew_var rfl ⟨_, rfl, rfl, srtS e, nK k, nR r, rfl, ?_⟩)
  refine ew_prop (ew_var rfl ⟨_, rfl, rfl, srtS e, nK k, nR r, rfl, ?_⟩)
  refine ew_prop (ew_var rfl ⟨_, rfl, rfl, srtS e, nK k, nR r, rfl, ?_⟩)
  refine ew_cb (aw_cons (ew_op (ew_var rfl (ew_int (ow_ixT rfl (aw_nil (dict_k ok.kd ?_)))))))
  refine ew_l1 (ew_var rfl ?_)
  walk_at "g"
  refine ew_lcP (tame_name (by decide)) (iw_any ?_)
  walk_at "g"
  refine ⟨_, .inl rfl, D, [.non, .int 0, .str "", .lst ((srtS e).map .str), .tup [.lst ((srtS e).map .str), .lst ((nK k).map kpD), .lst ((nR r).map rpD)], .dic (k.map kkD), .lst [ruleD a.c_Rule (srtS e) (nK k) (nR r)]], fun x => x, fun _ => .int 1, fun _ => false, (List.map_id' _).symm, (Nat.le_of_ble_eq_true rfl), ?_, ?_⟩
  · intro x acc z hx
    have od : OddD ([(p, c2)] ++ [(z, .lst acc)]) x := by
      simp only [List.mem_cons, List.not_mem_nil, or_false] at hx
      rcases hx with rfl | rfl | rfl | rfl | rfl | rfl | rfl <;> exact True.intro
    walk_at "g"
    refine ⟨rfl, srtS e, nK k, nR r, x, rfl, ok.norm, .inr ⟨od, ?_⟩⟩
    walk_at "g"
    exact ⟨by simp, rfl, fun h => by cases h⟩
  · rw [show List.filter (fun _ => false) _ = ([] : List D) from List.filter_eq_nil_iff.mpr (fun _ _ h => by cases h)]
    walk_at "g"
    refine ew_l0 ?_
    refine oq_eq 1 rfl rfl fun b hb => ?_
    obtain rfl : b = true := hb.mpr rfl
    walk_at "g"
    exact ⟨_, .refl, q _ (k2.up (by omega))⟩

end
end DL

set_option Elab.async false
set_option linter.all false
set_option maxRecDepth 100000
set_option maxHeartbeats 4000000
set_option autoImplicit false
namespace DL
open PySem PySem.Spec PyProof.Rows L2
local macro_rules | `(tactic| walk_at "m") => `(tactic| first
  | with_reducible exact MAt.last | with_reducible exact MUp.last
  | exact MAt.zero | exact MUp.zero | exact MAt.last | exact MUp.last
  | (apply MAt.cons; walk_at "m") | (apply MUp.cons; walk_at "m")
  | (apply MAt.app; walk_at "m") | (apply MUp.app; walk_at "m")
  | assumption)
local macro_rules | `(tactic| walk_at "s1") => `(tactic| with_reducible first
  | refine sw_seq ?_ | refine sw_next ?_ | refine sw_ret ?_ | refine sw_retN ?_ | refine sw_asg ?_ | refine sw_asgG ?_ | refine sw_drop ?_ | refine sw_break ?_ | refine sw_cont ?_ | refine sw_par ?_ | refine sw_par3 ?_
  | refine tw_test ?_ | refine tw_B ?_ | refine tw_and ?_ | refine tw_or ?_ | refine tw_not ?_ | refine tw_yes ?_
  | refine ew_op ?_ | refine ew_un ?_ | refine ew_int ?_ | refine ew_non ?_ | refine ew_bl ?_ | refine ew_str ?_ | refine ew_ty ?_ | refine ew_ref ?_ | refine ew_cb ?_ | refine ew_if ?_ | refine ew_andV ?_ | refine ew_orV ?_ | refine ew_notV ?_ | refine ew_chain ?_ | refine ew_sl ?_ | refine pw_no ?_ | refine pw_part ?_
  | refine ew_call0 ?_ | refine ew_kw0 ?_
  | refine aw_nil ?_ | refine aw_cons ?_ | refine ew_bm ?_ | refine ew_bm0 ?_ | refine gs_L ?_
  | refine gs_nil ?_ | refine gs_cons ?_ | refine gw_name ?_
  | refine ow_addI ?_ | refine ow_odd ?_ | refine ow_i0 ?_ | refine ow_b0 ?_ | refine oq_eqI ?_ | refine oq_neI ?_ | refine oq_eqS ?_ | refine oq_neS ?_ | refine ow_isN ?_ | refine ow_notN ?_ | refine uw_neg ?_ | refine cw_int ?_ | refine cw_intB ?_ | refine cw_abs ?_ | refine cw_mx2 ?_ | refine cw_mn2 ?_ | refine cw_lenL ?_ | refine cw_lenR ?_ | refine cw_listL ?_ | refine cw_listT ?_ | refine lw_L ?_ | refine ew_revL ?_)
local macro_rules | `(tactic| walk_at "s2") => `(tactic| first
  | ((with_reducible refine' ew_var ?hv ?_); (case hv => exact rfl))
  | ((with_reducible refine' oi_M ?hm ?hi ?_); (case hm => walk_at "m"); (case hi => exact rfl))
  | ((with_reducible refine' ow_ixT ?hi ?_); (case hi => exact rfl))
  | ((with_reducible refine' cl_M ?hm ?_); (case hm => walk_at "m"))
  | ((with_reducible refine' ci_M ?hm ?_); (case hm => walk_at "m"))
  | ((with_reducible refine' ma_app ?hm ?ll ?_); (case hm => walk_at "m"); (case ll => walk_at "l"))
  | ((with_reducible refine' And.intro (ty_A ?hm) ?_); (case hm => walk_at "m"))
  | (with_reducible refine' Exists.intro _ (And.intro ?he ?_); (case he => exact rfl))
  | (with_reducible refine' Exists.intro _ (Exists.intro _ (And.intro ?he ?_)); (case he => exact rfl))
  | (with_reducible refine' Exists.intro _ (Exists.intro _ (Exists.intro _ (And.intro ?he ?_))); (case he => exact rfl))
  | ((with_reducible refine' Exists.intro _ (Exists.intro _ (Exists.intro _ (Exists.intro _ (Exists.intro _ (And.intro ?e1 (And.intro ?e2 (And.intro ?hm (And.intro ?hi ?_))))))))); (case e1 => exact rfl); (case e2 => exact rfl); (case hm => walk_at "m"); (case hi => exact rfl)))
local macro_rules | `(tactic| walk_at "l") => `(tactic| first | assumption | exact lt_sz (by omega) | exact lt_sz (by simp only [List.length_map, List.length_append, List.length_cons, List.length_nil, List.length_take, List.length_drop, List.length_range]; omega))
local macro_rules | `(tactic| walk_at "s") => `(tactic| repeat (first | walk_at "s1" | walk_at "s2"))
local macro_rules | `(tactic| walk_at "sx") => `(tactic| with_reducible first
  | refine swx_of ?_ | refine swx_seq ?_ | refine swx_drop ?_ | refine swx_asg ?_ | refine swx_ret ?_ | refine ewx_fun ?_ | refine ewx_meth ?_ | refine ewx_make ?_ | refine ewx_sub ?_)
local macro_rules | `(tactic| walk_at "s") => `(tactic| repeat (first | walk_at "s1" | walk_at "s2" | walk_at "sx"))
local macro_rules | `(tactic| walk_at "g1") => `(tactic| with_reducible first
  | refine ew_tup2 ?_ | refine ew_tup3 ?_ | refine ew_tup4 ?_ | refine ew_fldI ?_ | refine sw_fldA ?_ | refine ew_dget1 ?_ | refine ew_dget2 ?_ | refine ow_isN ?_)
local macro_rules | `(tactic| walk_at "g2") => `(tactic| first
  | ((with_reducible refine' gw_tup ?e ?_); (case e => exact rfl))
  | ((with_reducible refine' oi_L ?e ?_); (case e => exact rfl))
  | ((refine' Exists.intro _ (And.intro ?cl (And.intro ?na (And.intro ?e ?_)))); (case cl => assumption); (case na => assumption); (case e => exact rfl))
  | ((refine' Exists.intro _ (Exists.intro _ (Exists.intro _ (Exists.intro _ (And.intro ?e (And.intro ?hm (And.intro ?cl (And.intro ?na (And.intro ?l ?_))))))))); (case e => exact rfl); (case hm => walk_at "m"); (case cl => assumption); (case na => assumption); (case l => exact Nat.le_of_ble_eq_true rfl)))
local macro_rules | `(tactic| walk_at "g") => `(tactic| repeat (first | walk_at "s1" | walk_at "s2" | walk_at "sx" | walk_at "g1" | walk_at "g2"))

section
variable {P : Program} {w : World} {K : PySem.W.Frag} {mg : Str → Option Value} {base : Heap} {a : Ads}
theorem capR (n : Nat) : ∃ kk : Nat, (if (if (n : Int) < 12 then (n : Int) else 12) > 1 then (if (n : Int) < 12 then (n : Int) else 12) else 1) = (kk : Int) ∧ kk ≤ 12 := by
  by_cases h : (n : Int) < 12
  · rw [if_pos h]
    by_cases h1 : (n : Int) > 1
    · rw [if_pos h1]
      exact ⟨n, rfl, by omega⟩
    · rw [if_neg h1]
      exact ⟨1, rfl, by omega⟩
  · rw [if_neg h, if_pos (by decide)]
    exact ⟨12, rfl, by omega⟩
def F_law : FS := fun ds m Q => ∃ ns : List Int, ds = [.scr ns] ∧ m = [] ∧ ∀ m', Q (.bl true) m'
theorem ok_law (T : Txt K mg a) : DefG P w K mg base 9 a.f_law ["script"] (FSn 1 (F_law)) := by
  have nd := sc_law.nd
  have C__law_right := ok__law_right (P := P) (w := w) (base := base) T
  have C__law_kit := ok__law_kit (P := P) (w := w) (base := base) T
  refine defOkG T.h_law sc_law (fun _ _ _ h => h.1) (fun cdv A outer s H hg hr => by exact (pss_cons (ps_for PassesOwn.never rfl (pi_range1 (by rfl) T.n_range (pa_cons (pe_callB (cr_mx2 rfl) (by rfl) T.n_max (by decide +kernel) (pa_cons pe_int (pa_cons (pe_callB (cr_mn2 rfl) (by rfl) T.n_min (by decide +kernel) (pa_cons pe_int (pa_cons (pe_callB (kx_len K rfl) (by rfl) T.n_len (by decide +kernel) (pa_cons (pv 0) pa_nil)) pa_nil))) pa_nil))) pa_nil)) (pg_name (i := 1) nd rfl (Or.inl rfl)) (pss_cons (ps_set (i := 2) nd rfl (Or.inl rfl) (kx_def K rfl C__law_kit (hr.mono (by decide)) rfl T.g__law_kit T.k__law_kit (pa_cons (pv 0) (pa_cons (pv 1) pa_nil))))
    (pss_one (ps_for PassesOwn.never rfl (pi_range1 (by rfl) T.n_range (pa_cons pe_int pa_nil)) (pg_name (i := 3) nd rfl (Or.inl rfl)) (pss_one (ps_if (pt_not (pt_val (kx_defG K rfl hg C__law_right (hr.mono (by decide)) rfl T.g__law_right T.k__law_right (pa_cons (pv 2) pa_nil)))) (pss_one (ps_ret pe_bl)) pss_nil))))))
    (pss_one (ps_ret pe_bl)))) (fun ds m Q h => ?_)
  replace h := h.2
  clear nd
  obtain ⟨ns, rfl, rfl, q⟩ := h
  obtain ⟨kk, ek, hkk⟩ := capR ns.length
  walk_at "g"
  refine sw_forN ?_
  walk_at "g"
  rw [ek]
  refine ⟨kk, rfl, by omega, fun j δ' m' => ∃ x1 x2 x3 : Option D, δ' = [some (.scr ns), x1, x2, x3] ∧ m' = [], ⟨_, _, _, rfl, rfl⟩, ?_, ?_⟩
  · rintro j δ' m' hj ⟨x1, x2, x3, rfl, rfl⟩
    refine gw_name (sw_free ?_)
    walk_at "g"
    refine ⟨rfl, ns, j, rfl, by omega, by omega, fun p c hc => ?_⟩
    walk_at "g"
    refine sw_forN ?_
    walk_at "g"
    refine ⟨2, rfl, by decide, fun i δ' m2 => ∃ (c' : Cell) (x3 : Option D), δ' = [some (.scr ns), some (.int (j : Nat)), some (.adr p), x3] ∧ m2 = [(p, c')] ∧ Kit (400 * i) c', ⟨c, _, rfl, rfl, hc⟩, ?_, ?_⟩
    · rintro i δ' m2 hi ⟨c', x3, rfl, rfl, kc⟩
      walk_at "g"
      refine sw_if ?_
      walk_at "g"
      refine ⟨rfl, p, c', 400 * i, rfl, rfl, kc, by omega, fun c2 k2 => ?_⟩
      walk_at "g"
      rw [if_neg (by decide)]
      walk_at "g"
      exact ⟨c2, _, rfl, rfl, k2.up (by omega)⟩
    · rintro δ' m2 ⟨c', x3, rfl, rfl, kc⟩
      exact ⟨[], ⟨[(p, c')], .refl _⟩, _, _, _, rfl, rfl⟩
  · rintro δ' m' ⟨x1, x2, x3, rfl, rfl⟩
    walk_at "g"
    exact q _

end
end DL

set_option Elab.async false
set_option linter.all false
set_option maxRecDepth 100000
set_option maxHeartbeats 4000000
set_option autoImplicit false
namespace DL
open PySem PySem.Spec PyProof.Rows L2
theorem facts {K : PySem.W.Frag} {h : Heap} {mg : Str → Option Value} (X : K.In h) (G : h.Ns mainGlobals mg) {c_CutError : Addr} {c_DoubleName : Addr} {c_InvalidName : Addr} {c_Rule : Addr} {f_Rule___eq__ : Addr} {od0 an0 : Option Addr} {sl0 : Array (Option Value)} {oc0 kV0 dc0 pm0 cd0 ct0 : Value} {f__law_both_ways : Addr} {od1 an1 : Option Addr} {sl1 : Array (Option Value)} {oc1 kV1 dc1 pm1 cd1 ct1 : Value} {f_Rule_ranks : Addr} {od2 an2 : Option Addr} {sl2 : Array (Option Value)} {oc2 kV2 dc2 pm2 cd2 ct2 : Value} {f_Rule_keyed : Addr} {od3 an3 : Option Addr} {sl3 : Array (Option Value)} {oc3 kV3 dc3 pm3 cd3 ct3 : Value} {f_Rule_early : Addr} {od4 an4 : Option Addr} {sl4 : Array (Option Value)} {oc4 kV4 dc4 pm4 cd4 ct4 : Value} {f_CutError___init__ : Addr} {od5 an5 : Option Addr} {sl5 : Array (Option Value)} {oc5 kV5 dc5 pm5 cd5 ct5 : Value} {f_is_name : Addr} {od6 an6 : Option Addr} {sl6 : Array (Option Value)} {oc6 kV6 dc6 pm6 cd6 ct6 : Value} {f_check_name : Addr} {od7 an7 : Option Addr} {sl7 : Array (Option Value)} {oc7 kV7 dc7 pm7 cd7 ct7 : Value} {f_check_rule : Addr} {od8 an8 : Option Addr} {sl8 : Array (Option Value)} {oc8 kV8 dc8 pm8 cd8 ct8 : Value} {f_Rule___init__ : Addr} {od9 an9 : Option Addr} {sl9 : Array (Option Value)} {oc9 kV9 dc9 pm9 cd9 ct9 : Value} {f__law_sorted : Addr} {od10 an10 : Option Addr} {sl10 : Array (Option Value)} {oc10 kV10 dc10 pm10 cd10 ct10 : Value} {f__law_toss : Addr} {od11 an11 : Option Addr} {sl11 : Array (Option Value)} {oc11 kV11 dc11 pm11 cd11 ct11 : Value} {f__law_changed : Addr} {od12 an12 : Option Addr} {sl12 : Array (Option Value)} {oc12 kV12 dc12 pm12 cd12 ct12 : Value} {f__law_tags : Addr} {od13 an13 : Option Addr} {sl13 : Array (Option Value)} {oc13 kV13 dc13 pm13 cd13 ct13 : Value} {f__law_drawn : Addr} {od14 an14 : Option Addr} {sl14 : Array (Option Value)} {oc14 kV14 dc14 pm14 cd14 ct14 : Value} {f__law_right : Addr} {od15 an15 : Option Addr} {sl15 : Array (Option Value)} {oc15 kV15 dc15 pm15 cd15 ct15 : Value} {f__law_kit : Addr} {od16 an16 : Option Addr} {sl16 : Array (Option Value)} {oc16 kV16 dc16 pm16 cd16 ct16 : Value} {f_law : Addr} {od17 an17 : Option Addr} {sl17 : Array (Option Value)} {oc17 kV17 dc17 pm17 cd17 ct17 : Value} {nmCutError qqCutError : Str} {NNCutError : Addr} {bsCutError bmCutError subCutError : List Value} {snCutError : List Str} {abCutError : Bool} {colCutError : Option Bool} {ddCutError : Option Addr} {k0CutError k1CutError k2CutError k3CutError k5CutError : Option Value} {nmDoubleName qqDoubleName : Str} {NNDoubleName : Addr} {bsDoubleName bmDoubleName subDoubleName : List Value} {snDoubleName : List Str} {abDoubleName : Bool} {colDoubleName : Option Bool} {ddDoubleName : Option Addr} {k0DoubleName k1DoubleName k2DoubleName k3DoubleName k5DoubleName : Option Value} {nmInvalidName qqInvalidName : Str} {NNInvalidName : Addr} {bsInvalidName bmInvalidName subInvalidName : List Value} {snInvalidName : List Str} {abInvalidName : Bool} {colInvalidName : Option Bool} {ddInvalidName : Option Addr} {k0InvalidName k1InvalidName k2InvalidName k3InvalidName k5InvalidName : Option Value} {q2 : Addr} {rs2 : List Value} {q3 : Addr} {rs3 : List Value} {q4 : Addr} {rs4 : List Value} {te9_0 : Addr} {tf9_0 : Option Addr} {tg9_0 : Array (Option Value)} {th9_0 : Nat} {t9 : Addr} {ot9 : Value} {dt9 : Option Addr} {st9 : Array (Option Value)} {nt9 : Nat}  {tk_LETTERS : Tok} {tk_MOST_LETTERS : Tok}
    (ihn : PySem.W.specialIn K (.builtin "object.__class__") "__get__" = some (some (.builtin "getset_descriptor.__get__")))
    (itk : PySem.W.takesIn K (.builtin "object.__class__") = some true)
    (a_CutError : PySem.W.nsIn K mainGlobals "CutError" = some (some (.ref c_CutError)))
    (oe_CutError : K.lookup c_CutError = some (excClassObj nmCutError qqCutError c_CutError NNCutError bsCutError bmCutError true snCutError subCutError abCutError colCutError ddCutError k0CutError k1CutError k2CutError k3CutError k5CutError "ValueError.__new__"))
    (rv_CutError : PySem.HandSPX.refsVE bmCutError = true)
    (sa_CutError : PySem.W.findIn K (.ref c_CutError) "__setattr__" = some (some (.builtin "object.__setattr__")))
    (xb_CutError : PySem.W.subIn K (.ref c_CutError) (.type "BaseException") = some true)
    (ty_CutError : PySem.W.typeIn K (.ref c_CutError) = some (.type "type"))
    (kc_CutError : PySem.W.keepIn K (.ref c_CutError) = true)
    (ei_CutError : PySem.W.findIn K (.ref c_CutError) "__init__" = some (some (.ref f_CutError___init__)))
    (ev_CutError : PySem.W.findIn K (.ref c_CutError) "value" = some none)
    (et_CutError : PySem.W.typeIn K (.ref f_CutError___init__) = some (.type "function"))
    (ga_CutError : PySem.W.findIn K (.ref c_CutError) "__getattribute__" = some (some (.builtin "BaseException.__getattribute__")))
    (gg_CutError : PySem.W.findIn K (.ref c_CutError) "__getattr__" = some none)
    (hd_CutError : PySem.W.hasDictIn K c_CutError = true)
    (iha_CutError : PySem.W.findIn K (.ref c_CutError) "__class__" = some (some (.builtin "object.__class__")))
    (imr_CutError : PySem.W.mroIn K c_CutError (.type "object") = some true)
    (a_DoubleName : PySem.W.nsIn K mainGlobals "DoubleName" = some (some (.ref c_DoubleName)))
    (oe_DoubleName : K.lookup c_DoubleName = some (excClassObj nmDoubleName qqDoubleName c_DoubleName NNDoubleName bsDoubleName bmDoubleName true snDoubleName subDoubleName abDoubleName colDoubleName ddDoubleName k0DoubleName k1DoubleName k2DoubleName k3DoubleName k5DoubleName "ValueError.__new__"))
    (rv_DoubleName : PySem.HandSPX.refsVE bmDoubleName = true)
    (sa_DoubleName : PySem.W.findIn K (.ref c_DoubleName) "__setattr__" = some (some (.builtin "object.__setattr__")))
    (xb_DoubleName : PySem.W.subIn K (.ref c_DoubleName) (.type "BaseException") = some true)
    (ty_DoubleName : PySem.W.typeIn K (.ref c_DoubleName) = some (.type "type"))
    (kc_DoubleName : PySem.W.keepIn K (.ref c_DoubleName) = true)
    (ei_DoubleName : PySem.W.findIn K (.ref c_DoubleName) "__init__" = some (some (.ref f_CutError___init__)))
    (ev_DoubleName : PySem.W.findIn K (.ref c_DoubleName) "value" = some none)
    (et_DoubleName : PySem.W.typeIn K (.ref f_CutError___init__) = some (.type "function"))
    (ga_DoubleName : PySem.W.findIn K (.ref c_DoubleName) "__getattribute__" = some (some (.builtin "BaseException.__getattribute__")))
    (gg_DoubleName : PySem.W.findIn K (.ref c_DoubleName) "__getattr__" = some none)
    (hd_DoubleName : PySem.W.hasDictIn K c_DoubleName = true)
    (iha_DoubleName : PySem.W.findIn K (.ref c_DoubleName) "__class__" = some (some (.builtin "object.__class__")))
    (imr_DoubleName : PySem.W.mroIn K c_DoubleName (.type "object") = some true)
    (a_InvalidName : PySem.W.nsIn K mainGlobals "InvalidName" = some (some (.ref c_InvalidName)))
    (oe_InvalidName : K.lookup c_InvalidName = some (excClassObj nmInvalidName qqInvalidName c_InvalidName NNInvalidName bsInvalidName bmInvalidName true snInvalidName subInvalidName abInvalidName colInvalidName ddInvalidName k0InvalidName k1InvalidName k2InvalidName k3InvalidName k5InvalidName "ValueError.__new__"))
    (rv_InvalidName : PySem.HandSPX.refsVE bmInvalidName = true)
    (sa_InvalidName : PySem.W.findIn K (.ref c_InvalidName) "__setattr__" = some (some (.builtin "object.__setattr__")))
    (xb_InvalidName : PySem.W.subIn K (.ref c_InvalidName) (.type "BaseException") = some true)
    (ty_InvalidName : PySem.W.typeIn K (.ref c_InvalidName) = some (.type "type"))
    (kc_InvalidName : PySem.W.keepIn K (.ref c_InvalidName) = true)
    (ei_InvalidName : PySem.W.findIn K (.ref c_InvalidName) "__init__" = some (some (.ref f_CutError___init__)))
    (ev_InvalidName : PySem.W.findIn K (.ref c_InvalidName) "value" = some none)
    (et_InvalidName : PySem.W.typeIn K (.ref f_CutError___init__) = some (.type "function"))
    (ga_InvalidName : PySem.W.findIn K (.ref c_InvalidName) "__getattribute__" = some (some (.builtin "BaseException.__getattribute__")))
    (gg_InvalidName : PySem.W.findIn K (.ref c_InvalidName) "__getattr__" = some none)
    (hd_InvalidName : PySem.W.hasDictIn K c_InvalidName = true)
    (iha_InvalidName : PySem.W.findIn K (.ref c_InvalidName) "__class__" = some (some (.builtin "object.__class__")))
    (imr_InvalidName : PySem.W.mroIn K c_InvalidName (.type "object") = some true)
    (a_Rule : PySem.W.nsIn K mainGlobals "Rule" = some (some (.ref c_Rule)))
    (pg_Rule : PySem.W.plainGet K c_Rule Str.empty = true)
    (hd_Rule : PySem.W.hasDictIn K c_Rule = true)
    (po_Rule : PySem.W.plainOver K c_Rule = true)
    (sa_Rule : PySem.W.findIn K (.ref c_Rule) "__setattr__" = some (some (.builtin "object.__setattr__")))
    (kc_Rule : PySem.W.keepIn K (.ref c_Rule) = true)
    (na_Rule__early : PySem.W.findIn K (.ref c_Rule) "_early" = some none)
    (na_Rule__keyed : PySem.W.findIn K (.ref c_Rule) "_keyed" = some none)
    (na_Rule__ranks : PySem.W.findIn K (.ref c_Rule) "_ranks" = some none)
    (na_Rule_value : PySem.W.findIn K (.ref c_Rule) "value" = some none)
    (su_CutError_CutError : PySem.W.subIn K (.ref c_CutError) (.ref c_CutError) = some true)
    (su_CutError_DoubleName : PySem.W.subIn K (.ref c_CutError) (.ref c_DoubleName) = some false)
    (su_CutError_InvalidName : PySem.W.subIn K (.ref c_CutError) (.ref c_InvalidName) = some false)
    (su_DoubleName_CutError : PySem.W.subIn K (.ref c_DoubleName) (.ref c_CutError) = some true)
    (su_DoubleName_DoubleName : PySem.W.subIn K (.ref c_DoubleName) (.ref c_DoubleName) = some true)
    (su_DoubleName_InvalidName : PySem.W.subIn K (.ref c_DoubleName) (.ref c_InvalidName) = some false)
    (su_InvalidName_CutError : PySem.W.subIn K (.ref c_InvalidName) (.ref c_CutError) = some true)
    (su_InvalidName_DoubleName : PySem.W.subIn K (.ref c_InvalidName) (.ref c_DoubleName) = some false)
    (su_InvalidName_InvalidName : PySem.W.subIn K (.ref c_InvalidName) (.ref c_InvalidName) = some true)
    (a0 : PySem.W.findIn K (.ref c_Rule) "__eq__" = some (some (.ref f_Rule___eq__)))
    (i0 : PySem.W.isFn K (.ref f_Rule___eq__) = true)
    (l0 : K.lookup f_Rule___eq__ = some ⟨oc0, od0, .func (PySem.W.fnOf "__eq__" "Rule.__eq__" (defArgs s_Rule___eq__) (defBody s_Rule___eq__) (defScope s_Rule___eq__) .none kV0 dc0 pm0 an0 cd0 ct0), sl0⟩)
    (c0 : PySem.W.codeIn K cd0 "Rule.__eq__" = true)
    (k0 : PySem.W.keepIn K (.ref f_Rule___eq__) = true)
    (a1 : PySem.W.nsIn K mainGlobals "_law_both_ways" = some (some (.ref f__law_both_ways)))
    (l1 : K.lookup f__law_both_ways = some ⟨oc1, od1, .func (PySem.W.fnOf "_law_both_ways" "_law_both_ways" (defArgs s__law_both_ways) (defBody s__law_both_ways) (defScope s__law_both_ways) .none kV1 dc1 pm1 an1 cd1 ct1), sl1⟩)
    (c1 : PySem.W.codeIn K cd1 "_law_both_ways" = true)
    (k1 : PySem.W.keepIn K (.ref f__law_both_ways) = true)
    (a2 : PySem.W.findIn K (.ref c_Rule) "ranks" = some (some (.ref q2)))
    (pr2 : PySem.W.recIn K q2 "property" = some (.ref f_Rule_ranks :: rs2))
    (pt2 : PySem.W.specialIn K (.ref q2) "__get__" = some (some (.builtin "property.__get__")))
    (px2 : PySem.W.takesIn K (.ref q2) = some true)
    (l2 : K.lookup f_Rule_ranks = some ⟨oc2, od2, .func (PySem.W.fnOf "ranks" "Rule.ranks" (defArgs s_Rule_ranks) (defBody s_Rule_ranks) (defScope s_Rule_ranks) .none kV2 dc2 pm2 an2 cd2 ct2), sl2⟩)
    (c2 : PySem.W.codeIn K cd2 "Rule.ranks" = true)
    (k2 : PySem.W.keepIn K (.ref f_Rule_ranks) = true)
    (a3 : PySem.W.findIn K (.ref c_Rule) "keyed" = some (some (.ref q3)))
    (pr3 : PySem.W.recIn K q3 "property" = some (.ref f_Rule_keyed :: rs3))
    (pt3 : PySem.W.specialIn K (.ref q3) "__get__" = some (some (.builtin "property.__get__")))
    (px3 : PySem.W.takesIn K (.ref q3) = some true)
    (l3 : K.lookup f_Rule_keyed = some ⟨oc3, od3, .func (PySem.W.fnOf "keyed" "Rule.keyed" (defArgs s_Rule_keyed) (defBody s_Rule_keyed) (defScope s_Rule_keyed) .none kV3 dc3 pm3 an3 cd3 ct3), sl3⟩)
    (c3 : PySem.W.codeIn K cd3 "Rule.keyed" = true)
    (k3 : PySem.W.keepIn K (.ref f_Rule_keyed) = true)
    (a4 : PySem.W.findIn K (.ref c_Rule) "early" = some (some (.ref q4)))
    (pr4 : PySem.W.recIn K q4 "property" = some (.ref f_Rule_early :: rs4))
    (pt4 : PySem.W.specialIn K (.ref q4) "__get__" = some (some (.builtin "property.__get__")))
    (px4 : PySem.W.takesIn K (.ref q4) = some true)
    (l4 : K.lookup f_Rule_early = some ⟨oc4, od4, .func (PySem.W.fnOf "early" "Rule.early" (defArgs s_Rule_early) (defBody s_Rule_early) (defScope s_Rule_early) .none kV4 dc4 pm4 an4 cd4 ct4), sl4⟩)
    (c4 : PySem.W.codeIn K cd4 "Rule.early" = true)
    (k4 : PySem.W.keepIn K (.ref f_Rule_early) = true)
    (a5 : PySem.W.findIn K (.ref c_CutError) "__init__" = some (some (.ref f_CutError___init__)))
    (i5 : PySem.W.isFn K (.ref f_CutError___init__) = true)
    (l5 : K.lookup f_CutError___init__ = some ⟨oc5, od5, .func (PySem.W.fnOf "__init__" "CutError.__init__" (defArgs s_CutError___init__) (defBody s_CutError___init__) (defScope s_CutError___init__) .none kV5 dc5 pm5 an5 cd5 ct5), sl5⟩)
    (c5 : PySem.W.codeIn K cd5 "CutError.__init__" = true)
    (k5 : PySem.W.keepIn K (.ref f_CutError___init__) = true)
    (a6 : PySem.W.nsIn K mainGlobals "is_name" = some (some (.ref f_is_name)))
    (l6 : K.lookup f_is_name = some ⟨oc6, od6, .func (PySem.W.fnOf "is_name" "is_name" (defArgs s_is_name) (defBody s_is_name) (defScope s_is_name) .none kV6 dc6 pm6 an6 cd6 ct6), sl6⟩)
    (c6 : PySem.W.codeIn K cd6 "is_name" = true)
    (k6 : PySem.W.keepIn K (.ref f_is_name) = true)
    (a7 : PySem.W.nsIn K mainGlobals "check_name" = some (some (.ref f_check_name)))
    (l7 : K.lookup f_check_name = some ⟨oc7, od7, .func (PySem.W.fnOf "check_name" "check_name" (defArgs s_check_name) (defBody s_check_name) (defScope s_check_name) .none kV7 dc7 pm7 an7 cd7 ct7), sl7⟩)
    (c7 : PySem.W.codeIn K cd7 "check_name" = true)
    (k7 : PySem.W.keepIn K (.ref f_check_name) = true)
    (a8 : PySem.W.nsIn K mainGlobals "check_rule" = some (some (.ref f_check_rule)))
    (l8 : K.lookup f_check_rule = some ⟨oc8, od8, .func (PySem.W.fnOf "check_rule" "check_rule" (defArgs s_check_rule) (defBody s_check_rule) (defScope s_check_rule) .none kV8 dc8 pm8 an8 cd8 ct8), sl8⟩)
    (c8 : PySem.W.codeIn K cd8 "check_rule" = true)
    (k8 : PySem.W.keepIn K (.ref f_check_rule) = true)
    (a9 : PySem.W.findIn K (.ref c_Rule) "__init__" = some (some (.ref f_Rule___init__)))
    (i9 : PySem.W.isFn K (.ref f_Rule___init__) = true)
    (mk_Rule : PySem.W.makesIn K c_Rule = true)
    (l9 : K.lookup f_Rule___init__ = some ⟨oc9, od9, .func (PySem.W.fnOf "__init__" "Rule.__init__" (defArgs s_Rule___init__) (defBody s_Rule___init__) (defScope s_Rule___init__) (.ref t9) kV9 dc9 pm9 an9 cd9 ct9), sl9⟩)
    (c9 : PySem.W.codeIn K cd9 "Rule.__init__" = true)
    (k9 : PySem.W.keepIn K (.ref f_Rule___init__) = true)
    (lt9 : K.lookup t9 = some ⟨ot9, dt9, .seq #[(.ref te9_0), .none, .none] nt9, st9⟩)
    (le9_0 : K.lookup te9_0 = some ⟨.type "tuple", tf9_0, .seq #[] th9_0, tg9_0⟩)
    (a10 : PySem.W.nsIn K mainGlobals "_law_sorted" = some (some (.ref f__law_sorted)))
    (l10 : K.lookup f__law_sorted = some ⟨oc10, od10, .func (PySem.W.fnOf "_law_sorted" "_law_sorted" (defArgs s__law_sorted) (defBody s__law_sorted) (defScope s__law_sorted) .none kV10 dc10 pm10 an10 cd10 ct10), sl10⟩)
    (c10 : PySem.W.codeIn K cd10 "_law_sorted" = true)
    (k10 : PySem.W.keepIn K (.ref f__law_sorted) = true)
    (a11 : PySem.W.nsIn K mainGlobals "_law_toss" = some (some (.ref f__law_toss)))
    (l11 : K.lookup f__law_toss = some ⟨oc11, od11, .func (PySem.W.fnOf "_law_toss" "_law_toss" (defArgs s__law_toss) (defBody s__law_toss) (defScope s__law_toss) .none kV11 dc11 pm11 an11 cd11 ct11), sl11⟩)
    (c11 : PySem.W.codeIn K cd11 "_law_toss" = true)
    (k11 : PySem.W.keepIn K (.ref f__law_toss) = true)
    (a12 : PySem.W.nsIn K mainGlobals "_law_changed" = some (some (.ref f__law_changed)))
    (l12 : K.lookup f__law_changed = some ⟨oc12, od12, .func (PySem.W.fnOf "_law_changed" "_law_changed" (defArgs s__law_changed) (defBody s__law_changed) (defScope s__law_changed) .none kV12 dc12 pm12 an12 cd12 ct12), sl12⟩)
    (c12 : PySem.W.codeIn K cd12 "_law_changed" = true)
    (k12 : PySem.W.keepIn K (.ref f__law_changed) = true)
    (a13 : PySem.W.nsIn K mainGlobals "_law_tags" = some (some (.ref f__law_tags)))
    (l13 : K.lookup f__law_tags = some ⟨oc13, od13, .func (PySem.W.fnOf "_law_tags" "_law_tags" (defArgs s__law_tags) (defBody s__law_tags) (defScope s__law_tags) .none kV13 dc13 pm13 an13 cd13 ct13), sl13⟩)
    (c13 : PySem.W.codeIn K cd13 "_law_tags" = true)
    (k13 : PySem.W.keepIn K (.ref f__law_tags) = true)
    (a14 : PySem.W.nsIn K mainGlobals "_law_drawn" = some (some (.ref f__law_drawn)))
    (l14 : K.lookup f__law_drawn = some ⟨oc14, od14, .func (PySem.W.fnOf "_law_drawn" "_law_drawn" (defArgs s__law_drawn) (defBody s__law_drawn) (defScope s__law_drawn) .none kV14 dc14 pm14 an14 cd14 ct14), sl14⟩)
    (c14 : PySem.W.codeIn K cd14 "_law_drawn" = true)
    (k14 : PySem.W.keepIn K (.ref f__law_drawn) = true)
    (a15 : PySem.W.nsIn K mainGlobals "_law_right" = some (some (.ref f__law_right)))
    (l15 : K.lookup f__law_right = some ⟨oc15, od15, .func (PySem.W.fnOf "_law_right" "_law_right" (defArgs s__law_right) (defBody s__law_right) (defScope s__law_right) .none kV15 dc15 pm15 an15 cd15 ct15), sl15⟩)
    (c15 : PySem.W.codeIn K cd15 "_law_right" = true)
    (k15 : PySem.W.keepIn K (.ref f__law_right) = true)
    (a16 : PySem.W.nsIn K mainGlobals "_law_kit" = some (some (.ref f__law_kit)))
    (l16 : K.lookup f__law_kit = some ⟨oc16, od16, .func (PySem.W.fnOf "_law_kit" "_law_kit" (defArgs s__law_kit) (defBody s__law_kit) (defScope s__law_kit) .none kV16 dc16 pm16 an16 cd16 ct16), sl16⟩)
    (c16 : PySem.W.codeIn K cd16 "_law_kit" = true)
    (k16 : PySem.W.keepIn K (.ref f__law_kit) = true)
    (a17 : PySem.W.nsIn K mainGlobals "law" = some (some (.ref f_law)))
    (l17 : K.lookup f_law = some ⟨oc17, od17, .func (PySem.W.fnOf "law" "law" (defArgs s_law) (defBody s_law) (defScope s_law) .none kV17 dc17 pm17 an17 cd17 ct17), sl17⟩)
    (c17 : PySem.W.codeIn K cd17 "law" = true)
    (k17 : PySem.W.keepIn K (.ref f_law) = true)
    (z_abs : PySem.W.nsIn K mainGlobals "abs" = some none)
    (z_all : PySem.W.nsIn K mainGlobals "all" = some none)
    (z_dict : PySem.W.nsIn K mainGlobals "dict" = some none)
    (z_int : PySem.W.nsIn K mainGlobals "int" = some none)
    (z_isinstance : PySem.W.nsIn K mainGlobals "isinstance" = some none)
    (z_len : PySem.W.nsIn K mainGlobals "len" = some none)
    (z_list : PySem.W.nsIn K mainGlobals "list" = some none)
    (z_max : PySem.W.nsIn K mainGlobals "max" = some none)
    (z_min : PySem.W.nsIn K mainGlobals "min" = some none)
    (z_range : PySem.W.nsIn K mainGlobals "range" = some none)
    (z_repr : PySem.W.nsIn K mainGlobals "repr" = some none)
    (z_set : PySem.W.nsIn K mainGlobals "set" = some none)
    (z_sorted : PySem.W.nsIn K mainGlobals "sorted" = some none)
    (z_str : PySem.W.nsIn K mainGlobals "str" = some none)
    (z_tuple : PySem.W.nsIn K mainGlobals "tuple" = some none)
    (w_LETTERS : PySem.W.nsIn K mainGlobals "LETTERS" = some (some (.str "abcdefghijklmnopqrstuvwxyz" tk_LETTERS)))
    (w_MOST_LETTERS : PySem.W.nsIn K mainGlobals "MOST_LETTERS" = some (some (.int 8 tk_MOST_LETTERS)))
    (ine_Rule : PySem.W.findIn K (.ref c_Rule) "__ne__" = some (some (.builtin "object.__ne__")))
    (inm_Rule : PySem.W.mroIn K c_Rule (.type "object") = some true)
    (iodd_Rule : OddC K c_Rule)
    (ioi_Rule : OddI K c_Rule)
    (iha_Rule : PySem.W.findIn K (.ref c_Rule) "__class__" = some (some (.builtin "object.__class__")))
    (imr_Rule : PySem.W.mroIn K c_Rule (.type "object") = some true)
    : Txt K mg { c_CutError := c_CutError, c_DoubleName := c_DoubleName, c_InvalidName := c_InvalidName, c_Rule := c_Rule, f_Rule___eq__ := f_Rule___eq__, f__law_both_ways := f__law_both_ways, f_Rule_ranks := f_Rule_ranks, f_Rule_keyed := f_Rule_keyed, f_Rule_early := f_Rule_early, f_CutError___init__ := f_CutError___init__, f_is_name := f_is_name, f_check_name := f_check_name, f_check_rule := f_check_rule, f_Rule___init__ := f_Rule___init__, f__law_sorted := f__law_sorted, f__law_toss := f__law_toss, f__law_changed := f__law_changed, f__law_tags := f__law_tags, f__law_drawn := f__law_drawn, f__law_right := f__law_right, f__law_kit := f__law_kit, f_law := f_law } := {
  n_abs := PySem.W.mg_none_of X G z_abs
  n_all := PySem.W.mg_none_of X G z_all
  n_dict := PySem.W.mg_none_of X G z_dict
  n_int := PySem.W.mg_none_of X G z_int
  n_isinstance := PySem.W.mg_none_of X G z_isinstance
  n_len := PySem.W.mg_none_of X G z_len
  n_list := PySem.W.mg_none_of X G z_list
  n_max := PySem.W.mg_none_of X G z_max
  n_min := PySem.W.mg_none_of X G z_min
  n_range := PySem.W.mg_none_of X G z_range
  n_repr := PySem.W.mg_none_of X G z_repr
  n_set := PySem.W.mg_none_of X G z_set
  n_sorted := PySem.W.mg_none_of X G z_sorted
  n_str := PySem.W.mg_none_of X G z_str
  n_tuple := PySem.W.mg_none_of X G z_tuple
  g_LETTERS := ⟨_, PySem.W.mg_of X G w_LETTERS, _, rfl⟩
  g_MOST_LETTERS := ⟨_, PySem.W.mg_of X G w_MOST_LETTERS, _, rfl⟩
  g_CutError := PySem.W.mg_of X G a_CutError
  g_DoubleName := PySem.W.mg_of X G a_DoubleName
  g_InvalidName := PySem.W.mg_of X G a_InvalidName
  g_Rule := PySem.W.mg_of X G a_Rule
  cl_Rule := ⟨pg_Rule, hd_Rule, po_Rule, sa_Rule⟩
  na_Rule__early := na_Rule__early
  na_Rule__keyed := na_Rule__keyed
  na_Rule__ranks := na_Rule__ranks
  na_Rule_value := na_Rule_value
  er_CutError := ⟨⟨⟨_, _, _, _, _, _, _, _, _, _, _, _, _, _, _, oe_CutError, rv_CutError⟩, sa_CutError, xb_CutError, ty_CutError, kc_CutError⟩, ei_CutError, ev_CutError, et_CutError⟩
  xf_CutError := ⟨ga_CutError, gg_CutError, xb_CutError, hd_CutError⟩
  xc_CutError := ⟨ga_CutError, gg_CutError, xb_CutError, hd_CutError, iha_CutError, ihn, itk, imr_CutError⟩
  su_CutError_CutError := su_CutError_CutError
  su_CutError_DoubleName := su_CutError_DoubleName
  su_CutError_InvalidName := su_CutError_InvalidName
  er_DoubleName := ⟨⟨⟨_, _, _, _, _, _, _, _, _, _, _, _, _, _, _, oe_DoubleName, rv_DoubleName⟩, sa_DoubleName, xb_DoubleName, ty_DoubleName, kc_DoubleName⟩, ei_DoubleName, ev_DoubleName, et_DoubleName⟩
  xf_DoubleName := ⟨ga_DoubleName, gg_DoubleName, xb_DoubleName, hd_DoubleName⟩
  xc_DoubleName := ⟨ga_DoubleName, gg_DoubleName, xb_DoubleName, hd_DoubleName, iha_DoubleName, ihn, itk, imr_DoubleName⟩
  su_DoubleName_CutError := su_DoubleName_CutError
  su_DoubleName_DoubleName := su_DoubleName_DoubleName
  su_DoubleName_InvalidName := su_DoubleName_InvalidName
  er_InvalidName := ⟨⟨⟨_, _, _, _, _, _, _, _, _, _, _, _, _, _, _, oe_InvalidName, rv_InvalidName⟩, sa_InvalidName, xb_InvalidName, ty_InvalidName, kc_InvalidName⟩, ei_InvalidName, ev_InvalidName, et_InvalidName⟩
  xf_InvalidName := ⟨ga_InvalidName, gg_InvalidName, xb_InvalidName, hd_InvalidName⟩
  xc_InvalidName := ⟨ga_InvalidName, gg_InvalidName, xb_InvalidName, hd_InvalidName, iha_InvalidName, ihn, itk, imr_InvalidName⟩
  su_InvalidName_CutError := su_InvalidName_CutError
  su_InvalidName_DoubleName := su_InvalidName_DoubleName
  su_InvalidName_InvalidName := su_InvalidName_InvalidName
  h_Rule___eq__ := has_mk l0 c0 fun _ _ _ _ _ _ us hl => match us, hl with | [_, _], _ => rfl
  eq_Rule := ⟨a0, i0⟩
  h__law_both_ways := has_mk l1 c1 fun _ _ _ _ _ _ us hl => match us, hl with | [_, _], _ => rfl
  g__law_both_ways := PySem.W.mg_of X G a1
  k__law_both_ways := k1
  h_Rule_ranks := has_mk l2 c2 fun _ _ _ _ _ _ us hl => match us, hl with | [_], _ => rfl
  p_Rule_ranks := ⟨q2, a2, pt2, px2, _, pr2⟩
  h_Rule_keyed := has_mk l3 c3 fun _ _ _ _ _ _ us hl => match us, hl with | [_], _ => rfl
  p_Rule_keyed := ⟨q3, a3, pt3, px3, _, pr3⟩
  h_Rule_early := has_mk l4 c4 fun _ _ _ _ _ _ us hl => match us, hl with | [_], _ => rfl
  p_Rule_early := ⟨q4, a4, pt4, px4, _, pr4⟩
  h_CutError___init__ := has_mk l5 c5 fun _ _ _ _ _ _ us hl => match us, hl with | [_, _], _ => rfl
  h_is_name := has_mk l6 c6 fun _ _ _ _ _ _ us hl => match us, hl with | [_], _ => rfl
  g_is_name := PySem.W.mg_of X G a6
  k_is_name := k6
  h_check_name := has_mk l7 c7 fun _ _ _ _ _ _ us hl => match us, hl with | [_], _ => rfl
  g_check_name := PySem.W.mg_of X G a7
  k_check_name := k7
  h_check_rule := has_mk l8 c8 fun _ _ _ _ _ _ us hl => match us, hl with | [_, _, _], _ => rfl
  g_check_rule := PySem.W.mg_of X G a8
  k_check_rule := k8
  h_Rule___init__ := has_mkD l9 c9 lt9 fun _ _ _ _ _ _ us hl => match us, hl with | [_, _, _, _], _ => ⟨_, rfl, rfl⟩
  mk_Rule := ⟨mk_Rule, a9, i9, kc_Rule⟩
  h__law_sorted := has_mk l10 c10 fun _ _ _ _ _ _ us hl => match us, hl with | [_], _ => rfl
  g__law_sorted := PySem.W.mg_of X G a10
  k__law_sorted := k10
  h__law_toss := has_mk l11 c11 fun _ _ _ _ _ _ us hl => match us, hl with | [_, _], _ => rfl
  g__law_toss := PySem.W.mg_of X G a11
  k__law_toss := k11
  h__law_changed := has_mk l12 c12 fun _ _ _ _ _ _ us hl => match us, hl with | [_, _], _ => rfl
  g__law_changed := PySem.W.mg_of X G a12
  k__law_changed := k12
  h__law_tags := has_mk l13 c13 fun _ _ _ _ _ _ us hl => match us, hl with | [_, _], _ => rfl
  g__law_tags := PySem.W.mg_of X G a13
  k__law_tags := k13
  h__law_drawn := has_mk l14 c14 fun _ _ _ _ _ _ us hl => match us, hl with | [_], _ => rfl
  g__law_drawn := PySem.W.mg_of X G a14
  k__law_drawn := k14
  h__law_right := has_mk l15 c15 fun _ _ _ _ _ _ us hl => match us, hl with | [_], _ => rfl
  g__law_right := PySem.W.mg_of X G a15
  k__law_right := k15
  h__law_kit := has_mk l16 c16 fun _ _ _ _ _ _ us hl => match us, hl with | [_, _], _ => rfl
  g__law_kit := PySem.W.mg_of X G a16
  k__law_kit := k16
  h_law := has_mk l17 c17 fun _ _ _ _ _ _ us hl => match us, hl with | [_], _ => rfl
  g_law := PySem.W.mg_of X G a17
  k_law := k17
  kb_check_name_1 := (kbs_mk l7 fun _ _ _ _ _ _ us ws h1 h2 => match us, ws, h1, h2 with | [_], [], _, _ => rfl)
  kb_check_rule_3 := (kbs_mk l8 fun _ _ _ _ _ _ us ws h1 h2 => match us, ws, h1, h2 with | [_, _, _], [], _, _ => rfl)
  ne_Rule := ⟨ine_Rule, inm_Rule⟩
  odd_Rule := iodd_Rule
  oi_Rule := ioi_Rule
  io_Rule := ⟨iha_Rule, ihn, itk, imr_Rule⟩
  b_law := law_mk l17 fun _ => rfl
}
theorem whole {l : PySem.W.OpenLaw} {w : World} {K : PySem.W.Frag} {h : Heap} {mg : Str → Option Value} {fa : Addr} {a : Ads} (X : K.In h) (G : h.Ns mainGlobals mg) (hfa : mg "law" = some (.ref fa)) (T : Txt K mg a) :
    ∃ fd : FuncData, (∀ (s : Shared) (v : Value), BindsTo s fd ⟨[v], []⟩ [("script", v)]) ∧ ∀ base : Heap, K.In base → base.Ns mainGlobals mg → FnG l.prog w K mg base 9 fa fd ["script"] (spOf K (FSn 1 (F_law))) := by
  have e := hfa.symm.trans T.g_law
  cases e
  obtain ⟨fd, F, _⟩ := T.h_law
  refine ⟨fd, T.b_law fd (Fnc.fdAt F), fun base _ _ => ?_⟩
  obtain ⟨fd2, F2, _, e2⟩ := ok_law (P := l.prog) (w := w) (base := base) T
  rw [fdAt_inj (Fnc.fdAt F) e2]
  first | exact F2 | exact FnG.of F2
end DL
open PySem PySem.W PyProof.Rows in
set_option maxRecDepth 100000 in
set_option maxHeartbeats 0 in
theorem PySem.Challenge.cw_anycut_k15_equal_rules_holds : PySem.Challenge.rw_anycut_k15_equal_rules.Holds := by
  w_on; o_law; k_head; (case hw => w_witness2)
  k_fill
  refine DL.walk_at_law (l := PySem.Challenge.rw_anycut_k15_equal_rules) (k := 9) (Pf := DL.FSn 1 (DL.F_law)) (x := "script") rfl (by decide) rfl ⟨rfl, by decide, by decide⟩ (fun w h Y => by first | exact PySem.W.kIn_of Y | exact PySem.W.km_in_of Y) ?F (fun ns _ _ => by first | exact ⟨rfl, ns, rfl, fun _ => rfl⟩ | exact ⟨rfl, ns, rfl, rfl, fun _ => rfl⟩)
  case F =>
    intro w mg fa h KX G hmg
    refine DL.whole KX G hmg (a := { c_CutError := ?_, c_DoubleName := ?_, c_InvalidName := ?_, c_Rule := ?_, f_Rule___eq__ := ?_, f__law_both_ways := ?_, f_Rule_ranks := ?_, f_Rule_keyed := ?_, f_Rule_early := ?_, f_CutError___init__ := ?_, f_is_name := ?_, f_check_name := ?_, f_check_rule := ?_, f_Rule___init__ := ?_, f__law_sorted := ?_, f__law_toss := ?_, f__law_changed := ?_, f__law_tags := ?_, f__law_drawn := ?_, f__law_right := ?_, f__law_kit := ?_, f_law := ?_ }) ?T
    case T =>
      refine' DL.facts KX G ?x_ihn ?x_itk ?x_a_CutError ?x_oe_CutError ?x_rv_CutError ?x_sa_CutError ?x_xb_CutError ?x_ty_CutError ?x_kc_CutError ?x_ei_CutError ?x_ev_CutError ?x_et_CutError ?x_ga_CutError ?x_gg_CutError ?x_hd_CutError ?x_iha_CutError ?x_imr_CutError ?x_a_DoubleName ?x_oe_DoubleName ?x_rv_DoubleName ?x_sa_DoubleName ?x_xb_DoubleName ?x_ty_DoubleName ?x_kc_DoubleName ?x_ei_DoubleName ?x_ev_DoubleName ?x_et_DoubleName ?x_ga_DoubleName ?x_gg_DoubleName ?x_hd_DoubleName ?x_iha_DoubleName ?x_imr_DoubleName ?x_a_InvalidName ?x_oe_InvalidName ?x_rv_InvalidName ?x_sa_InvalidName ?x_xb_InvalidName ?x_ty_InvalidName ?x_kc_InvalidName ?x_ei_InvalidName ?x_ev_InvalidName ?x_et_InvalidName ?x_ga_InvalidName ?x_gg_InvalidName ?x_hd_InvalidName ?x_iha_InvalidName ?x_imr_InvalidName ?x_a_Rule ?x_pg_Rule ?x_hd_Rule ?x_po_Rule ?x_sa_Rule ?x_kc_Rule ?x_na_Rule__early ?x_na_Rule__keyed ?x_na_Rule__ranks ?x_na_Rule_value ?x_su_CutError_CutError ?x_su_CutError_DoubleName ?x_su_CutError_InvalidName ?x_su_DoubleName_CutError ?x_su_DoubleName_DoubleName ?x_su_DoubleName_InvalidName ?x_su_InvalidName_CutError ?x_su_InvalidName_DoubleName ?x_su_InvalidName_InvalidName ?x_a0 ?x_i0 ?x_l0 ?x_c0 ?x_k0 ?x_a1 ?x_l1 ?x_c1 ?x_k1 ?x_a2 ?x_pr2 ?x_pt2 ?x_px2 ?x_l2 ?x_c2 ?x_k2 ?x_a3 ?x_pr3 ?x_pt3 ?x_px3 ?x_l3 ?x_c3 ?x_k3 ?x_a4 ?x_pr4 ?x_pt4 ?x_px4 ?x_l4 ?x_c4 ?x_k4 ?x_a5 ?x_i5 ?x_l5 ?x_c5 ?x_k5 ?x_a6 ?x_l6 ?x_c6 ?x_k6 ?x_a7 ?x_l7 ?x_c7 ?x_k7 ?x_a8 ?x_l8 ?x_c8 ?x_k8 ?x_a9 ?x_i9 ?x_mk_Rule ?x_l9 ?x_c9 ?x_k9 ?x_lt9 ?x_le9_0 ?x_a10 ?x_l10 ?x_c10 ?x_k10 ?x_a11 ?x_l11 ?x_c11 ?x_k11 ?x_a12 ?x_l12 ?x_c12 ?x_k12 ?x_a13 ?x_l13 ?x_c13 ?x_k13 ?x_a14 ?x_l14 ?x_c14 ?x_k14 ?x_a15 ?x_l15 ?x_c15 ?x_k15 ?x_a16 ?x_l16 ?x_c16 ?x_k16 ?x_a17 ?x_l17 ?x_c17 ?x_k17 ?x_z_abs ?x_z_all ?x_z_dict ?x_z_int ?x_z_isinstance ?x_z_len ?x_z_list ?x_z_max ?x_z_min ?x_z_range ?x_z_repr ?x_z_set ?x_z_sorted ?x_z_str ?x_z_tuple ?x_w_LETTERS ?x_w_MOST_LETTERS ?x_ine_Rule ?x_inm_Rule ?x_iodd_Rule ?x_ioi_Rule ?x_iha_Rule ?x_imr_Rule
      (case x_ihn => k_is)
      (case x_itk => k_is)
      (case x_a_CutError => k_is)
      (case x_oe_CutError => k_is)
      (case x_rv_CutError => decide +kernel)
      (case x_sa_CutError => k_is)
      (case x_xb_CutError => k_is)
      (case x_ty_CutError => k_is)
      (case x_kc_CutError => k_is)
      (case x_ei_CutError => k_is)
      (case x_ev_CutError => k_is)
      (case x_et_CutError => k_is)
      (case x_ga_CutError => k_is)
      (case x_gg_CutError => k_is)
      (case x_hd_CutError => k_is)
      (case x_iha_CutError => k_is)
      (case x_imr_CutError => k_is)
      (case x_a_DoubleName => k_is)
      (case x_oe_DoubleName => k_is)
      (case x_rv_DoubleName => decide +kernel)
      (case x_sa_DoubleName => k_is)
      (case x_xb_DoubleName => k_is)
      (case x_ty_DoubleName => k_is)
      (case x_kc_DoubleName => k_is)
      (case x_ei_DoubleName => k_is)
      (case x_ev_DoubleName => k_is)
      (case x_et_DoubleName => k_is)
      (case x_ga_DoubleName => k_is)
      (case x_gg_DoubleName => k_is)
      (case x_hd_DoubleName => k_is)
      (case x_iha_DoubleName => k_is)
      (case x_imr_DoubleName => k_is)
      (case x_a_InvalidName => k_is)
      (case x_oe_InvalidName => k_is)
      (case x_rv_InvalidName => decide +kernel)
      (case x_sa_InvalidName => k_is)
      (case x_xb_InvalidName => k_is)
      (case x_ty_InvalidName => k_is)
      (case x_kc_InvalidName => k_is)
      (case x_ei_InvalidName => k_is)
      (case x_ev_InvalidName => k_is)
      (case x_et_InvalidName => k_is)
      (case x_ga_InvalidName => k_is)
      (case x_gg_InvalidName => k_is)
      (case x_hd_InvalidName => k_is)
      (case x_iha_InvalidName => k_is)
      (case x_imr_InvalidName => k_is)
      (case x_a_Rule => k_is)
      (case x_pg_Rule => k_is)
      (case x_hd_Rule => k_is)
      (case x_po_Rule => k_is)
      (case x_sa_Rule => k_is)
      (case x_kc_Rule => k_is)
      (case x_na_Rule__early => k_is)
      (case x_na_Rule__keyed => k_is)
      (case x_na_Rule__ranks => k_is)
      (case x_na_Rule_value => k_is)
      (case x_su_CutError_CutError => k_is)
      (case x_su_CutError_DoubleName => k_is)
      (case x_su_CutError_InvalidName => k_is)
      (case x_su_DoubleName_CutError => k_is)
      (case x_su_DoubleName_DoubleName => k_is)
      (case x_su_DoubleName_InvalidName => k_is)
      (case x_su_InvalidName_CutError => k_is)
      (case x_su_InvalidName_DoubleName => k_is)
      (case x_su_InvalidName_InvalidName => k_is)
      (case x_a0 => k_is)
      (case x_i0 => k_is)
      (case x_l0 => k_is)
      (case x_c0 => k_is)
      (case x_k0 => k_is)
      (case x_a1 => k_is)
      (case x_l1 => k_is)
      (case x_c1 => k_is)
      (case x_k1 => k_is)
      (case x_a2 => k_is)
      (case x_pr2 => k_is)
      (case x_pt2 => k_is)
      (case x_px2 => k_is)
      (case x_l2 => k_is)
      (case x_c2 => k_is)
      (case x_k2 => k_is)
      (case x_a3 => k_is)
      (case x_pr3 => k_is)
      (case x_pt3 => k_is)
      (case x_px3 => k_is)
      (case x_l3 => k_is)
      (case x_c3 => k_is)
      (case x_k3 => k_is)
      (case x_a4 => k_is)
      (case x_pr4 => k_is)
      (case x_pt4 => k_is)
      (case x_px4 => k_is)
      (case x_l4 => k_is)
      (case x_c4 => k_is)
      (case x_k4 => k_is)
      (case x_a5 => k_is)
      (case x_i5 => k_is)
      (case x_l5 => k_is)
      (case x_c5 => k_is)
      (case x_k5 => k_is)
      (case x_a6 => k_is)
      (case x_l6 => k_is)
      (case x_c6 => k_is)
      (case x_k6 => k_is)
      (case x_a7 => k_is)
      (case x_l7 => k_is)
      (case x_c7 => k_is)
      (case x_k7 => k_is)
      (case x_a8 => k_is)
      (case x_l8 => k_is)
      (case x_c8 => k_is)
      (case x_k8 => k_is)
      (case x_a9 => k_is)
      (case x_i9 => k_is)
      (case x_mk_Rule => k_is)
      (case x_l9 => k_is)
      (case x_c9 => k_is)
      (case x_k9 => k_is)
      (case x_lt9 => k_is)
      (case x_le9_0 => k_is)
      (case x_a10 => k_is)
      (case x_l10 => k_is)
      (case x_c10 => k_is)
      (case x_k10 => k_is)
      (case x_a11 => k_is)
      (case x_l11 => k_is)
      (case x_c11 => k_is)
      (case x_k11 => k_is)
      (case x_a12 => k_is)
      (case x_l12 => k_is)
      (case x_c12 => k_is)
      (case x_k12 => k_is)
      (case x_a13 => k_is)
      (case x_l13 => k_is)
      (case x_c13 => k_is)
      (case x_k13 => k_is)
      (case x_a14 => k_is)
      (case x_l14 => k_is)
      (case x_c14 => k_is)
      (case x_k14 => k_is)
      (case x_a15 => k_is)
      (case x_l15 => k_is)
      (case x_c15 => k_is)
      (case x_k15 => k_is)
      (case x_a16 => k_is)
      (case x_l16 => k_is)
      (case x_c16 => k_is)
      (case x_k16 => k_is)
      (case x_a17 => k_is)
      (case x_l17 => k_is)
      (case x_c17 => k_is)
      (case x_k17 => k_is)
      (case x_z_abs => k_is)
      (case x_z_all => k_is)
      (case x_z_dict => k_is)
      (case x_z_int => k_is)
      (case x_z_isinstance => k_is)
      (case x_z_len => k_is)
      (case x_z_list => k_is)
      (case x_z_max => k_is)
      (case x_z_min => k_is)
      (case x_z_range => k_is)
      (case x_z_repr => k_is)
      (case x_z_set => k_is)
      (case x_z_sorted => k_is)
      (case x_z_str => k_is)
      (case x_z_tuple => k_is)
      (case x_w_LETTERS => k_is)
      (case x_w_MOST_LETTERS => k_is)
      (case x_ine_Rule => k_is)
      (case x_inm_Rule => k_is)
      (case x_iodd_Rule => (unfold DL.OddC; kernel_rfl))
      (case x_ioi_Rule => (unfold DL.OddI; kernel_rfl))
      (case x_iha_Rule => k_is)
      (case x_imr_Rule => k_is)
#print axioms PySem.Challenge.cw_anycut_k15_equal_rules_holds

