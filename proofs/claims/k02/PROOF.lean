import PyProof.Rows.All
import Wide.All
import OpenK.AllK
import Wide.FinOn
import HandS.ForMost
import HandS.Lambda
import HandS.Wide
import HandS.SetKeys
import HandS.IsInst
import HandS.Deep
import HandS.More
import HandS.TupAny
import PyProof.ReprRoads
import HandS.Property
import HandS.MakeKwOnly
import HandS.DictComp
import HandS.Style
import HandS.OwnEq
import HandS.RaiseMore
import HandS.Defaults
import PyProof.ReprLen
import PyProof.StrLawsRepr
import HandS.WideBits
import HandS.MakeKw
import HandS.Conv
import HandS.Iter
import HandS.Zip
import HandS.SetFor
import PyProof.InstNe
import HandS.NamedTup0
import HandS.Dict
import HandS.Exc
import HandS.ExcOwn
import HandS.ExcInit
import HandS.ExcIs
import HandS.ExcField
import PyProof.Rows.StrRev
import PyProof.Rows.StrStep
import HandS.EndBits
import HandS.SortKw
import HandS.Keys
import KE.KSortKey
import HandS.NoneIn
import HandS.RevRange
import HandS.EndTab
import HandS.SortRule
import HandS.Finally
import PyProof.NeKinds
import HandS.ListItems
import PyProof.Rows.ReprOcc
import PyProof.ReprText
import HandS.DictEq
import KE.GoesMore
import PySem.Challenge.RW_anycut_k02_services_as_constructed
set_option Elab.async false
set_option linter.all false
set_option maxRecDepth 100000
set_option autoImplicit false
/-! A small logic of data over the hand layer: what a value reads as, what stands still, what cells may change. -/
namespace DL
open PySem PySem.Spec PyProof.Rows L2

/-- data, as the proofs speak of them; adr: a cell that may still change -/
inductive D where
  | non | bl (b : Bool) | int (i : Int) | str (x : Str) | adr (a : Addr) | ty (n : String) | scr (ns : List Int)
  | lst (xs : List D) | tup (xs : List D) | dic (kvs : List (Key × D)) | ins (C : Addr) (fs : List (Str × D))

mutual
/-- in the still part F of a heap a value reads as these data -/
inductive Rd (K : PySem.W.Frag) (F : Hp) : V → D → Prop
  | non : Rd K F .non .non
  | bl (b : Bool) : Rd K F (.bl b) (.bl b)
  | int (i : Int) : Rd K F (.int i) (.int i)
  | str (x : Str) : Rd K F (.str x) (.str x)
  | adr (a : Addr) : Rd K F (.ref a) (.adr a)
  | ty (n : String) : Rd K F (.ty n) (.ty n)
  | scr {a : Addr} {ns : List Int} : SqL K F a (ns.map V.int) → Rd K F (.ref a) (.scr ns)
  | lst {a : Addr} {xs : List V} {ds : List D} : F a = some (.lst xs) → RdL K F xs ds → Rd K F (.ref a) (.lst ds)
  | tup {a : Addr} {xs : List V} {ds : List D} : SqT K F a xs → RdL K F xs ds → Rd K F (.ref a) (.tup ds)
  | dic {a : Addr} {vs : List (Key × V)} {ds : List (Key × D)} : F a = some (.dK vs) → vs.map Prod.fst = ds.map Prod.fst → RdL K F (vs.map Prod.snd) (ds.map Prod.snd) → Rd K F (.ref a) (.dic ds)
  | ins {a C dx : Addr} {vs : List (Str × V)} {ds : List (Str × D)} : F a = some (.ins C dx vs) → vs.map Prod.fst = ds.map Prod.fst → RdL K F (vs.map Prod.snd) (ds.map Prod.snd) → Rd K F (.ref a) (.ins C ds)
inductive RdL (K : PySem.W.Frag) (F : Hp) : List V → List D → Prop
  | nil : RdL K F [] []
  | cons {v : V} {vs : List V} {d : D} {ds : List D} : Rd K F v d → RdL K F vs ds → RdL K F (v :: vs) (d :: ds)
end

/-- all that stands in F stands in F' -/
def Sub (F F' : Hp) : Prop := ∀ a o, F a = some o → F' a = some o
theorem Sub.refl (F : Hp) : Sub F F := fun _ _ h => h
theorem Sub.trans {F G H : Hp} (a : Sub F G) (b : Sub G H) : Sub F H := fun x o h => b x o (a x o h)
theorem Sub.rd {F F' : Hp} {a : Addr} {u : HO} (e : Sub F F') (h : L2.Rd F a u) : L2.Rd F' a u := by
  rcases h with q | ⟨o, q⟩
  · exact .inl (e _ _ q)
  · exact .inr ⟨o, e _ _ q⟩
theorem Sub.sql {K : PySem.W.Frag} {F F' : Hp} {a : Addr} {xs : List V} (e : Sub F F') (h : SqL K F a xs) : SqL K F' a xs := by
  rcases h with q | q
  · exact .inl (e.rd q)
  · exact .inr q
theorem Sub.sqt {K : PySem.W.Frag} {F F' : Hp} {a : Addr} {xs : List V} (e : Sub F F') (h : SqT K F a xs) : SqT K F' a xs := by
  rcases h with q | q
  · exact .inl (e.rd q)
  · exact .inr q

mutual
theorem Rd.mono {K : PySem.W.Frag} {F F' : Hp} (e : Sub F F') : ∀ {v : V} {d : D}, Rd K F v d → Rd K F' v d
  | _, _, .non => .non
  | _, _, .bl b => .bl b
  | _, _, .int i => .int i
  | _, _, .str x => .str x
  | _, _, .adr a => .adr a
  | _, _, .ty n => .ty n
  | _, _, .scr h => .scr (e.sql h)
  | _, _, .lst h r => .lst (e _ _ h) (RdL.mono e r)
  | _, _, .tup h r => .tup (e.sqt h) (RdL.mono e r)
  | _, _, .dic h k r => .dic (e _ _ h) k (RdL.mono e r)
  | _, _, .ins h k r => .ins (e _ _ h) k (RdL.mono e r)
theorem RdL.mono {K : PySem.W.Frag} {F F' : Hp} (e : Sub F F') : ∀ {vs : List V} {ds : List D}, RdL K F vs ds → RdL K F' vs ds
  | _, _, .nil => .nil
  | _, _, .cons h r => .cons (Rd.mono e h) (RdL.mono e r)
end
theorem RdL.length {K : PySem.W.Frag} {F : Hp} : ∀ {vs : List V} {ds : List D}, RdL K F vs ds → vs.length = ds.length
  | _, _, .nil => rfl
  | _, _, .cons _ r => by rw [List.length_cons, List.length_cons, RdL.length r]
theorem RdL.get {K : PySem.W.Frag} {F : Hp} : ∀ {vs : List V} {ds : List D} {i : Nat} {d : D}, RdL K F vs ds → ds[i]? = some d → ∃ v, vs[i]? = some v ∧ Rd K F v d
  | _, _, _, _, .nil, e => by simp at e
  | _, _, 0, _, .cons h _, e => by
    simp at e
    subst e
    exact ⟨_, rfl, h⟩
  | _, _, i + 1, d, .cons _ r, e => by
    obtain ⟨v, h1, h2⟩ := RdL.get (i := i) (d := d) r (by simpa using e)
    exact ⟨v, by simpa using h1, h2⟩
theorem RdL.get' {K : PySem.W.Frag} {F : Hp} : ∀ {vs : List V} {ds : List D} {i : Nat} {v : V}, RdL K F vs ds → vs[i]? = some v → ∃ d, ds[i]? = some d ∧ Rd K F v d
  | _, _, _, _, .nil, e => by simp at e
  | _, _, 0, _, .cons h _, e => by
    simp at e
    subst e
    exact ⟨_, rfl, h⟩
  | _, _, i + 1, v, .cons _ r, e => by
    obtain ⟨d, h1, h2⟩ := RdL.get' (i := i) (v := v) r (by simpa using e)
    exact ⟨d, by simpa using h1, h2⟩
theorem RdL.append {K : PySem.W.Frag} {F : Hp} : ∀ {vs ws : List V} {ds es : List D}, RdL K F vs ds → RdL K F ws es → RdL K F (vs ++ ws) (ds ++ es)
  | _, _, _, _, .nil, s => s
  | _, _, _, _, .cons h r, s => .cons h (RdL.append r s)
theorem RdL.snoc {K : PySem.W.Frag} {F : Hp} {vs : List V} {ds : List D} {v : V} {d : D} (r : RdL K F vs ds) (h : Rd K F v d) : RdL K F (vs ++ [v]) (ds ++ [d]) := r.append (.cons h .nil)
theorem RdL.set {K : PySem.W.Frag} {F : Hp} {v : V} {d : D} (h : Rd K F v d) : ∀ {vs : List V} {ds : List D} (i : Nat), RdL K F vs ds → RdL K F (vs.set i v) (ds.set i d)
  | _, _, _, .nil => .nil
  | _, _, 0, .cons _ r => .cons h r
  | _, _, i + 1, .cons q r => .cons q (RdL.set h i r)
theorem RdL.take {K : PySem.W.Frag} {F : Hp} : ∀ {vs : List V} {ds : List D} (n : Nat), RdL K F vs ds → RdL K F (vs.take n) (ds.take n)
  | _, _, 0, _ => .nil
  | _, _, _ + 1, .nil => .nil
  | _, _, n + 1, .cons h r => .cons h (RdL.take n r)
theorem RdL.drop {K : PySem.W.Frag} {F : Hp} : ∀ {vs : List V} {ds : List D} (n : Nat), RdL K F vs ds → RdL K F (vs.drop n) (ds.drop n)
  | _, _, 0, r => r
  | _, _, _ + 1, .nil => .nil
  | _, _, n + 1, .cons _ r => RdL.drop n r
theorem RdL.reverse {K : PySem.W.Frag} {F : Hp} : ∀ {vs : List V} {ds : List D}, RdL K F vs ds → RdL K F vs.reverse ds.reverse
  | _, _, .nil => .nil
  | _, _, .cons h r => by
    rw [List.reverse_cons, List.reverse_cons]
    exact (RdL.reverse r).snoc h
theorem RdL.ints {K : PySem.W.Frag} {F : Hp} : ∀ {ns : List Int}, RdL K F (ns.map V.int) (ns.map D.int)
  | [] => .nil
  | n :: ns => .cons (.int n) RdL.ints
theorem RdL.strs {K : PySem.W.Frag} {F : Hp} : ∀ {ns : List Str}, RdL K F (ns.map V.str) (ns.map D.str)
  | [] => .nil
  | n :: ns => .cons (.str n) RdL.strs
theorem RdL.ints_v {K : PySem.W.Frag} {F : Hp} : ∀ {ns : List Int} {vs : List V}, RdL K F vs (ns.map D.int) → vs = ns.map V.int
  | [], _, .nil => rfl
  | n :: ns, _, .cons h r => by
    cases h
    rw [List.map_cons, RdL.ints_v r]
theorem RdL.strs_v {K : PySem.W.Frag} {F : Hp} : ∀ {ns : List Str} {vs : List V}, RdL K F vs (ns.map D.str) → vs = ns.map V.str
  | [], _, .nil => rfl
  | n :: ns, _, .cons h r => by
    cases h
    rw [List.map_cons, RdL.strs_v r]
theorem RdL.bls_v {K : PySem.W.Frag} {F : Hp} : ∀ {ns : List Bool} {vs : List V}, RdL K F vs (ns.map D.bl) → vs = ns.map V.bl
  | [], _, .nil => rfl
  | n :: ns, _, .cons h r => by
    cases h
    rw [List.map_cons, RdL.bls_v r]

/-! ### cells that may change -/
inductive Cell where
  | lst (xs : List D) | dic (kvs : List (Key × D)) | ins (C : Addr) (fs : List (Str × D)) | xd (fs : List (Str × D)) | obj (o : HO) | tbl (q : Str)
abbrev Mem := List (Addr × Cell)
/-- the still part: all but the cells -/
def hide (m : Mem) (H : Hp) : Hp := fun a => if a ∈ m.map Prod.fst then none else H a
def CellAt (K : PySem.W.Frag) (F H : Hp) (p : Addr) : Cell → Prop
  | .lst ds => ∃ xs, H p = some (.lst xs) ∧ RdL K F xs ds
  | .dic ds => ∃ vs : List (Key × V), H p = some (.dK vs) ∧ vs.map Prod.fst = ds.map Prod.fst ∧ RdL K F (vs.map Prod.snd) (ds.map Prod.snd)
  | .ins C ds => ∃ (dx : Addr) (vs : List (Str × V)), H p = some (.ins C dx vs) ∧ vs.map Prod.fst = ds.map Prod.fst ∧ RdL K F (vs.map Prod.snd) (ds.map Prod.snd)
  | .xd ds => ∃ vs : List (Str × V), H p = some (.xd vs) ∧ vs.map Prod.fst = ds.map Prod.fst ∧ RdL K F (vs.map Prod.snd) (ds.map Prod.snd)
  | .obj o => H p = some o
  | .tbl q => ∃ ps : Array Value, H p = some (.tbl ps) ∧ PySem.TriplesOk ps.toList ∧ ∀ (pos : Pos) (cv : Value), PySem.codeAmong pos ps.toList = some cv → ∃ c, cv = .ref c ∧ F c = some (LamX.CodeO c q)
structure MemOk (K : PySem.W.Frag) (m : Mem) (H : Hp) : Prop where
  nd : (m.map Prod.fst).Nodup
  at_ : ∀ p c, (p, c) ∈ m → CellAt K (hide m H) H p c

theorem hide_in {m : Mem} {H : Hp} {a : Addr} (h : a ∈ m.map Prod.fst) : hide m H a = none := if_pos h
theorem hide_out {m : Mem} {H : Hp} {a : Addr} (h : a ∉ m.map Prod.fst) : hide m H a = H a := if_neg h
theorem hide_le {m : Mem} {H : Hp} : Sub (hide m H) H := fun a o e => by
  by_cases h : a ∈ m.map Prod.fst
  · rw [hide_in h] at e; cases e
  · rw [hide_out h] at e; exact e
theorem CellAt.some {K : PySem.W.Frag} {F H : Hp} {p : Addr} {c : Cell} (h : CellAt K F H p c) : ∃ o, H p = some o := by
  cases c with
  | lst => obtain ⟨_, e, _⟩ := h; exact ⟨_, e⟩
  | dic => obtain ⟨_, e, _⟩ := h; exact ⟨_, e⟩
  | ins => obtain ⟨_, _, e, _⟩ := h; exact ⟨_, e⟩
  | xd => obtain ⟨_, e, _⟩ := h; exact ⟨_, e⟩
  | obj o => exact ⟨_, h⟩
  | tbl q => obtain ⟨_, e, _⟩ := h; exact ⟨_, e⟩
theorem CellAt.mono {K : PySem.W.Frag} {F F' H H' : Hp} {p : Addr} {c : Cell} (h : CellAt K F H p c) (e : Sub F F') (k : H' p = H p) : CellAt K F' H' p c := by
  cases c with
  | lst => obtain ⟨xs, q, r⟩ := h; exact ⟨xs, k.trans q, r.mono e⟩
  | dic => obtain ⟨xs, q, n, r⟩ := h; exact ⟨xs, k.trans q, n, r.mono e⟩
  | ins => obtain ⟨dx, xs, q, n, r⟩ := h; exact ⟨dx, xs, k.trans q, n, r.mono e⟩
  | xd => obtain ⟨xs, q, n, r⟩ := h; exact ⟨xs, k.trans q, n, r.mono e⟩
  | obj o => exact k.trans h
  | tbl q =>
    obtain ⟨ps, h1, h2, h3⟩ := h
    refine ⟨ps, k.trans h1, h2, fun pos cv hc => ?_⟩
    obtain ⟨c, e1, e2⟩ := h3 pos cv hc
    exact ⟨c, e1, e _ _ e2⟩
section
variable {K : PySem.W.Frag} {m : Mem} {H : Hp}
theorem MemOk.tracked (M : MemOk K m H) {p : Addr} (h : p ∈ m.map Prod.fst) : ∃ o, H p = some o := by
  obtain ⟨⟨q, c⟩, hm, rfl⟩ := List.mem_map.mp h
  exact (M.at_ _ _ hm).some
theorem MemOk.fresh (M : MemOk K m H) {p : Addr} (h : H p = none) : p ∉ m.map Prod.fst := fun q => by
  obtain ⟨o, e⟩ := M.tracked q
  rw [h] at e; cases e
/-- a new still object -/
theorem hide_new (M : MemOk K m H) {p : Addr} {o : HO} (h : H p = none) : hide m (upd H p o) = upd (hide m H) p o := by
  funext a
  have np := M.fresh h
  by_cases e : a = p
  · subst e
    rw [hide_out np, upd_same, upd_same]
  · rw [upd_ne e]
    unfold hide
    rw [upd_ne e]
theorem Sub.new {F : Hp} {p : Addr} {o : HO} (h : F p = none) : Sub F (upd F p o) := fun a u e => by
  rw [upd_ne (ne_of_none e h)]
  exact e
theorem hide_none {p : Addr} (h : H p = none) : hide m H p = none := by
  by_cases q : p ∈ m.map Prod.fst
  · exact hide_in q
  · rw [hide_out q]; exact h
theorem MemOk.new (M : MemOk K m H) {p : Addr} {o : HO} (h : H p = none) : MemOk K m (upd H p o) ∧ Sub (hide m H) (hide m (upd H p o)) := by
  have s : Sub (hide m H) (hide m (upd H p o)) := by
    rw [hide_new M h]
    exact Sub.new (hide_none h)
  refine ⟨⟨M.nd, fun q c hm => (M.at_ q c hm).mono s (upd_ne fun e => ?_)⟩, s⟩
  subst e
  exact M.fresh h (List.mem_map.mpr ⟨_, hm, rfl⟩)
/-- a new cell -/
theorem hide_cell {p : Addr} {c : Cell} {o : HO} (h : H p = none) : hide (m ++ [(p, c)]) (upd H p o) = hide m H := by
  funext a
  unfold hide
  rw [List.map_append]
  by_cases e : a = p
  · subst e
    rw [if_pos (by simp)]
    by_cases q : a ∈ m.map Prod.fst
    · rw [if_pos q]
    · rw [if_neg q, h]
  · rw [upd_ne e]
    by_cases q : a ∈ m.map Prod.fst
    · rw [if_pos q, if_pos (List.mem_append_left _ q)]
    · rw [if_neg q, if_neg (by simp only [List.map_cons, List.map_nil, List.mem_append, List.mem_singleton]; intro z; rcases z with z | z; exact q z; exact e z)]
theorem MemOk.cell (M : MemOk K m H) {p : Addr} {c : Cell} {o : HO} (h : H p = none) (hc : CellAt K (hide m H) (upd H p o) p c) : MemOk K (m ++ [(p, c)]) (upd H p o) := by
  have np := M.fresh h
  refine ⟨?_, fun q d hm => ?_⟩
  · rw [List.map_append]
    refine List.nodup_append.mpr ⟨M.nd, by simp, fun a ha b hb => ?_⟩
    simp at hb
    subst hb
    intro e; subst e; exact np ha
  · rw [hide_cell h]
    rcases List.mem_append.mp hm with z | z
    · refine (M.at_ q d z).mono (Sub.refl _) (upd_ne fun e => ?_)
      subst e
      exact np (List.mem_map.mpr ⟨_, z, rfl⟩)
    · simp at z
      obtain ⟨rfl, rfl⟩ := z
      exact hc
/-- a cell changes -/
theorem hide_set {i : Nat} {p : Addr} {c c' : Cell} {o : HO} (hi : m[i]? = some (p, c)) : hide (m.set i (p, c')) (upd H p o) = hide m H := by
  have e1 : (m.set i (p, c')).map Prod.fst = m.map Prod.fst := by
    rw [List.map_set]
    exact List.ext_getElem? fun j => by
      rw [List.getElem?_set]
      by_cases e : i = j
      · subst e
        rw [if_pos rfl]
        by_cases l : i < (m.map Prod.fst).length
        · rw [if_pos l, List.getElem?_map, hi]; rfl
        · rw [if_neg l, List.getElem?_eq_none (by omega)]
      · rw [if_neg e]
  funext a
  unfold hide
  rw [e1]
  by_cases e : a ∈ m.map Prod.fst
  · rw [if_pos e, if_pos e]
  · rw [if_neg e, if_neg e, upd_ne]
    intro z
    subst z
    exact e (List.mem_map.mpr ⟨_, List.mem_of_getElem? hi, rfl⟩)
theorem fst_set {i : Nat} {p : Addr} {c c' : Cell} (hi : m[i]? = some (p, c)) : (m.set i (p, c')).map Prod.fst = m.map Prod.fst := by
  rw [List.map_set]
  exact List.ext_getElem? fun j => by
    rw [List.getElem?_set]
    by_cases e : i = j
    · subst e
      rw [if_pos rfl]
      by_cases l : i < (m.map Prod.fst).length
      · rw [if_pos l, List.getElem?_map, hi]; rfl
      · rw [if_neg l, List.getElem?_eq_none (by omega)]
    · rw [if_neg e]
theorem MemOk.set (M : MemOk K m H) {i : Nat} {p : Addr} {c c' : Cell} {o : HO} (hi : m[i]? = some (p, c)) (hc : CellAt K (hide m H) (upd H p o) p c') : MemOk K (m.set i (p, c')) (upd H p o) := by
  refine ⟨by rw [fst_set hi]; exact M.nd, fun q d hm => ?_⟩
  rw [hide_set hi]
  obtain ⟨j, hj⟩ := List.getElem?_of_mem hm
  rw [List.getElem?_set] at hj
  by_cases e : i = j
  · subst e
    rw [if_pos rfl] at hj
    split at hj
    · cases hj
      exact hc
    · cases hj
  · rw [if_neg e] at hj
    refine (M.at_ q d (List.mem_of_getElem? hj)).mono (Sub.refl _) (upd_ne fun z => ?_)
    subst z
    have l1 : i < (m.map Prod.fst).length := by
      rw [List.length_map]
      exact (List.getElem?_eq_some_iff.mp hi).1
    exact e ((List.getElem?_inj l1 M.nd).mp (by rw [List.getElem?_map, List.getElem?_map, hi, hj] <;> rfl))
theorem MemOk.get (M : MemOk K m H) {i : Nat} {p : Addr} {c : Cell} (hi : m[i]? = some (p, c)) : CellAt K (hide m H) H p c := M.at_ _ _ (List.mem_of_getElem? hi)
end
end DL

set_option Elab.async false
set_option linter.all false
set_option maxRecDepth 100000
namespace DL
open PySem PySem.Spec PyProof.Rows L2
set_option autoImplicit false

/-- the slots of a frame, as data (none: not known) -/
structure Sl (K : PySem.W.Frag) (F : Hp) (σ : L2.St) (δ : List (Option D)) : Prop where
  len : σ.length = δ.length
  at_ : ∀ (i : Nat) (d : D), δ[i]? = some (some d) → ∃ v, σ[i]? = some (some v) ∧ Rd K F v d
theorem Sl.mono {K : PySem.W.Frag} {F F' : Hp} {σ : L2.St} {δ : List (Option D)} (h : Sl K F σ δ) (e : Sub F F') : Sl K F' σ δ :=
  ⟨h.len, fun i d q => let ⟨v, a, r⟩ := h.at_ i d q; ⟨v, a, r.mono e⟩⟩
theorem Sl.set {K : PySem.W.Frag} {F : Hp} {σ : L2.St} {δ : List (Option D)} (h : Sl K F σ δ) {v : V} {d : D} (i : Nat) (r : Rd K F v d) : Sl K F (σ.set i (some v)) (δ.set i (some d)) := by
  refine ⟨by rw [List.length_set, List.length_set]; exact h.len, fun j e q => ?_⟩
  rw [List.getElem?_set] at q
  rw [List.getElem?_set]
  by_cases c : i = j
  · subst c
    rw [if_pos rfl] at q ⊢
    by_cases l : i < δ.length
    · rw [if_pos l] at q
      rw [if_pos (by rw [h.len]; exact l)]
      cases q
      exact ⟨v, rfl, r⟩
    · rw [if_neg l] at q; cases q
  · rw [if_neg c] at q ⊢
    exact h.at_ j e q
theorem Sl.unset {K : PySem.W.Frag} {F : Hp} {σ : L2.St} {δ : List (Option D)} (h : Sl K F σ δ) (i : Nat) : Sl K F (σ.set i none) (δ.set i none) := by
  refine ⟨by rw [List.length_set, List.length_set]; exact h.len, fun j e q => ?_⟩
  rw [List.getElem?_set] at q
  rw [List.getElem?_set]
  by_cases c : i = j
  · subst c
    rw [if_pos rfl] at q
    split at q <;> cases q
  · rw [if_neg c] at q ⊢
    exact h.at_ j e q
/-- forget -/
theorem Sl.weak {K : PySem.W.Frag} {F : Hp} {σ : L2.St} {δ δ' : List (Option D)} (h : Sl K F σ δ) (l : δ.length = δ'.length) (k : ∀ (i : Nat) (d : D), δ'[i]? = some (some d) → δ[i]? = some (some d)) : Sl K F σ δ' :=
  ⟨h.len.trans l, fun i d q => h.at_ i d (k i d q)⟩
def wipeD (δ : List (Option D)) : List Nat → List (Option D)
  | [] => δ
  | v :: vs => (wipeD δ vs).set v none
theorem Sl.wipe {K : PySem.W.Frag} {F : Hp} {σ : L2.St} {δ : List (Option D)} (h : Sl K F σ δ) : ∀ vs : List Nat, Sl K F (wipe σ vs) (wipeD δ vs)
  | [] => h
  | v :: vs => by
    unfold L2.wipe wipeD
    exact (Sl.wipe h vs).unset v

section
variable (K : PySem.W.Frag)
/-- an expression, from the slots and the cells, ends in data with which Q holds -/
def EW (te : TE) (δ : List (Option D)) (m : Mem) (Q : D → Mem → Prop) : Prop := ∀ (σ : L2.St) (H : Hp), Sl K (hide m H) σ δ → MemOk K m H → ∀ QQ : VK,
  (∀ (d : D) (m' : Mem) (v : V) (H' : Hp), Q d m' → Sub (hide m H) (hide m' H') → MemOk K m' H' → Rd K (hide m' H') v d → QQ v H') → te σ H QQ
def TW (tt : TT) (δ : List (Option D)) (m : Mem) (Q : Bool → Mem → Prop) : Prop := ∀ (σ : L2.St) (H : Hp), Sl K (hide m H) σ δ → MemOk K m H → ∀ QQ : Bool → Hp → Prop,
  (∀ (b : Bool) (m' : Mem) (H' : Hp), Q b m' → Sub (hide m H) (hide m' H') → MemOk K m' H' → QQ b H') → tt σ H QQ
def AW (ta : TA) (δ : List (Option D)) (m : Mem) (Q : List D → Mem → Prop) : Prop := ∀ (σ : L2.St) (H : Hp), Sl K (hide m H) σ δ → MemOk K m H → ∀ QQ : List V → Hp → Prop,
  (∀ (ds : List D) (m' : Mem) (vs : List V) (H' : Hp), Q ds m' → Sub (hide m H) (hide m' H') → MemOk K m' H' → RdL K (hide m' H') vs ds → QQ vs H') → ta σ H QQ
/-- an operation on two values; a call on values; a method -/
def OW (r : R2) (x y : D) (m : Mem) (Q : D → Mem → Prop) : Prop := ∀ (H : Hp) (v w : V), MemOk K m H → Rd K (hide m H) v x → Rd K (hide m H) w y → ∀ QQ : VK,
  (∀ (d : D) (m' : Mem) (u : V) (H' : Hp), Q d m' → Sub (hide m H) (hide m' H') → MemOk K m' H' → Rd K (hide m' H') u d → QQ u H') → r v w H QQ
def UW (r : V → Hp → VK → Prop) (x : D) (m : Mem) (Q : D → Mem → Prop) : Prop := ∀ (H : Hp) (v : V), MemOk K m H → Rd K (hide m H) v x → ∀ QQ : VK,
  (∀ (d : D) (m' : Mem) (u : V) (H' : Hp), Q d m' → Sub (hide m H) (hide m' H') → MemOk K m' H' → Rd K (hide m' H') u d → QQ u H') → r v H QQ
def CW (r : List V → Hp → VK → Prop) (xs : List D) (m : Mem) (Q : D → Mem → Prop) : Prop := ∀ (H : Hp) (vs : List V), MemOk K m H → RdL K (hide m H) vs xs → ∀ QQ : VK,
  (∀ (d : D) (m' : Mem) (u : V) (H' : Hp), Q d m' → Sub (hide m H) (hide m' H') → MemOk K m' H' → Rd K (hide m' H') u d → QQ u H') → r vs H QQ
/-- a method of a built-in type: the receiver, the arguments -/
def MW (r : V → List V → Hp → VK → Prop) (x : D) (xs : List D) (m : Mem) (Q : D → Mem → Prop) : Prop := ∀ (H : Hp) (v : V) (vs : List V), MemOk K m H → Rd K (hide m H) v x → RdL K (hide m H) vs xs → ∀ QQ : VK,
  (∀ (d : D) (m' : Mem) (u : V) (H' : Hp), Q d m' → Sub (hide m H) (hide m' H') → MemOk K m' H' → Rd K (hide m' H') u d → QQ u H') → r v vs H QQ

/-- what is wanted behind a statement -/
structure Ps where
  nx : List (Option D) → Mem → Prop
  rt : D → Mem → Prop
  bk : List (Option D) → Mem → Prop := fun _ _ => False
  ct : List (Option D) → Mem → Prop := fun _ _ => False
structure Meets (P : Ps) (F : Hp) (E : Ends) : Prop where
  nx : ∀ (δ : List (Option D)) (m : Mem) (σ : L2.St) (H : Hp), P.nx δ m → Sub F (hide m H) → Sl K (hide m H) σ δ → MemOk K m H → E.nx σ H
  rt : ∀ (d : D) (m : Mem) (v : V) (H : Hp), P.rt d m → Sub F (hide m H) → MemOk K m H → Rd K (hide m H) v d → E.rt v H
  bk : ∀ (δ : List (Option D)) (m : Mem) (σ : L2.St) (H : Hp), P.bk δ m → Sub F (hide m H) → Sl K (hide m H) σ δ → MemOk K m H → E.bk σ H
  ct : ∀ (δ : List (Option D)) (m : Mem) (σ : L2.St) (H : Hp), P.ct δ m → Sub F (hide m H) → Sl K (hide m H) σ δ → MemOk K m H → E.ct σ H
def SW (ts : TS) (δ : List (Option D)) (m : Mem) (P : Ps) : Prop := ∀ (σ : L2.St) (H : Hp), Sl K (hide m H) σ δ → MemOk K m H → ∀ E : Ends, Meets K P (hide m H) E → ts E σ H
end
section
variable {K : PySem.W.Frag} {δ : List (Option D)} {m : Mem} {Q : D → Mem → Prop} {te ta tb tc : TE} {P : Ps} {t u : TS} {tt tu : TT} {F F' : Hp} {E : Ends}
theorem Meets.mono (h : Meets K P F E) (e : Sub F F') : Meets K P F' E :=
  ⟨fun δ m σ H a b => h.nx δ m σ H a (e.trans b), fun δ m σ H a b => h.rt δ m σ H a (e.trans b), fun δ m σ H a b => h.bk δ m σ H a (e.trans b), fun δ m σ H a b => h.ct δ m σ H a (e.trans b)⟩

/-! ### expressions -/
theorem EW.imp {Q' : D → Mem → Prop} (h : EW K te δ m Q) (k : ∀ d m', Q d m' → Q' d m') : EW K te δ m Q' := fun σ H s M QQ q => h σ H s M QQ fun d m' v H' a => q d m' v H' (k d m' a)
theorem ew_var {i : Nat} {d : D} (h : δ[i]? = some (some d)) (q : Q d m) : EW K (tVar i) δ m Q := fun σ H s M QQ k => by
  obtain ⟨v, a, r⟩ := s.at_ i d h
  exact ⟨v, a, k d m v H q (Sub.refl _) M r⟩
theorem ew_non (q : Q .non m) : EW K (tC .non) δ m Q := fun σ H s M QQ k => k _ m _ H q (Sub.refl _) M .non
theorem ew_bl {b : Bool} (q : Q (.bl b) m) : EW K (tC (.bl b)) δ m Q := fun σ H s M QQ k => k _ m _ H q (Sub.refl _) M (.bl b)
theorem ew_int {b : Int} (q : Q (.int b) m) : EW K (tC (.int b)) δ m Q := fun σ H s M QQ k => k _ m _ H q (Sub.refl _) M (.int b)
theorem ew_str {b : Str} (q : Q (.str b) m) : EW K (tC (.str b)) δ m Q := fun σ H s M QQ k => k _ m _ H q (Sub.refl _) M (.str b)
theorem ew_op {r : R2} (h : EW K ta δ m fun x m1 => EW K tb δ m1 fun y m2 => OW K r x y m2 Q) : EW K (tOp r ta tb) δ m Q := fun σ H s M QQ k =>
  h σ H s M _ fun x m1 v1 H1 q1 s1 M1 r1 => q1 σ H1 (s.mono s1) M1 _ fun y m2 v2 H2 q2 s2 M2 r2 => q2 H2 v1 v2 M2 (r1.mono s2) r2 _ fun d m3 v3 H3 q3 s3 M3 r3 => k d m3 v3 H3 q3 (s1.trans (s2.trans s3)) M3 r3
theorem ew_un {r : V → Hp → VK → Prop} (h : EW K ta δ m fun x m1 => UW K r x m1 Q) : EW K (tUn r ta) δ m Q := fun σ H s M QQ k =>
  h σ H s M _ fun x m1 v1 H1 q1 s1 M1 r1 => q1 H1 v1 M1 r1 _ fun d m3 v3 H3 q3 s3 M3 r3 => k d m3 v3 H3 q3 (s1.trans s3) M3 r3
theorem aw_nil {Q : List D → Mem → Prop} (q : Q [] m) : AW K tNil δ m Q := fun σ H s M QQ k => k [] m [] H q (Sub.refl _) M .nil
theorem aw_cons {tr : TA} {Q : List D → Mem → Prop} (h : EW K te δ m fun x m1 => AW K tr δ m1 fun xs m2 => Q (x :: xs) m2) : AW K (tCons te tr) δ m Q := fun σ H s M QQ k =>
  h σ H s M _ fun x m1 v1 H1 q1 s1 M1 r1 => q1 σ H1 (s.mono s1) M1 _ fun ds m2 vs H2 q2 s2 M2 r2 => k (x :: ds) m2 (v1 :: vs) H2 q2 (s1.trans s2) M2 (.cons (r1.mono s2) r2)
theorem ew_cb {r : List V → Hp → VK → Prop} {t : TA} (h : AW K t δ m fun xs m1 => CW K r xs m1 Q) : EW K (tCB r t) δ m Q := fun σ H s M QQ k =>
  h σ H s M _ fun ds m1 vs H1 q1 s1 M1 r1 => q1 H1 vs M1 r1 _ fun d m2 v2 H2 q2 s2 M2 r2 => k d m2 v2 H2 q2 (s1.trans s2) M2 r2
/-- a still tuple; a still list; a list that may change -/
theorem ew_tup {t : TA} (h : AW K t δ m fun xs m1 => xs.length ≤ sizeLine ∧ Q (.tup xs) m1) : EW K (tTup t) δ m Q := fun σ H s M QQ k =>
  h σ H s M _ fun ds m1 vs H1 q1 s1 M1 r1 => ⟨by rw [r1.length]; exact q1.1, fun p hp => by
    obtain ⟨M2, s2⟩ := M1.new (o := .tup vs) hp
    refine k (.tup ds) m1 (.ref p) _ q1.2 (s1.trans s2) M2 (.tup ?_ (r1.mono s2))
    rw [hide_new M1 hp]
    exact .inl (.inl upd_same)⟩
theorem ew_lst {t : TA} (h : AW K t δ m fun xs m1 => xs.length ≤ sizeLine ∧ Q (.lst xs) m1) : EW K (tLst t) δ m Q := fun σ H s M QQ k =>
  h σ H s M _ fun ds m1 vs H1 q1 s1 M1 r1 => ⟨by rw [r1.length]; exact q1.1, fun p hp => by
    obtain ⟨M2, s2⟩ := M1.new (o := .lst vs) hp
    refine k (.lst ds) m1 (.ref p) _ q1.2 (s1.trans s2) M2 (.lst ?_ (r1.mono s2))
    rw [hide_new M1 hp]
    exact upd_same⟩
theorem ew_lstM {t : TA} (h : AW K t δ m fun xs m1 => xs.length ≤ sizeLine ∧ ∀ p, Q (.adr p) (m1 ++ [(p, .lst xs)])) : EW K (tLst t) δ m Q := fun σ H s M QQ k =>
  h σ H s M _ fun ds m1 vs H1 q1 s1 M1 r1 => ⟨by rw [r1.length]; exact q1.1, fun p hp => by
    have e : hide (m1 ++ [(p, Cell.lst ds)]) (upd H1 p (.lst vs)) = hide m1 H1 := hide_cell hp
    exact k (.adr p) (m1 ++ [(p, .lst ds)]) (.ref p) _ (q1.2 p) (by rw [e]; exact s1) (M1.cell (c := .lst ds) hp ⟨vs, upd_same, r1⟩) (.adr p)⟩
theorem ew_if (h : TW K tt δ m fun b m1 => if b = true then EW K ta δ m1 Q else EW K tb δ m1 Q) : EW K (tIf tt ta tb) δ m Q := fun σ H s M QQ k =>
  h σ H s M _ fun b m1 H1 q1 s1 M1 => by
    cases b with
    | true => exact (show EW K ta δ m1 Q from q1) σ H1 (s.mono s1) M1 QQ fun d m2 v2 H2 q2 s2 M2 r2 => k d m2 v2 H2 q2 (s1.trans s2) M2 r2
    | false => exact (show EW K tb δ m1 Q from q1) σ H1 (s.mono s1) M1 QQ fun d m2 v2 H2 q2 s2 M2 r2 => k d m2 v2 H2 q2 (s1.trans s2) M2 r2
theorem ew_andV (h : EW K ta δ m fun x m1 => ∃ b, x = .bl b ∧ if b = true then EW K tb δ m1 Q else Q (.bl false) m1) : EW K (tAndV ta tb) δ m Q := fun σ H s M QQ k =>
  h σ H s M _ fun x m1 v1 H1 ⟨b, e, q1⟩ s1 M1 r1 => by
    subst e
    cases r1
    refine ⟨b, rfl, ?_⟩
    cases b with
    | true => exact (show EW K tb δ m1 Q from q1) σ H1 (s.mono s1) M1 QQ fun d m2 v2 H2 q2 s2 M2 r2 => k d m2 v2 H2 q2 (s1.trans s2) M2 r2
    | false => exact k _ m1 _ H1 q1 s1 M1 (.bl false)
theorem ew_orV (h : EW K ta δ m fun x m1 => ∃ b, x = .bl b ∧ if b = true then Q (.bl true) m1 else EW K tb δ m1 Q) : EW K (tOrV ta tb) δ m Q := fun σ H s M QQ k =>
  h σ H s M _ fun x m1 v1 H1 ⟨b, e, q1⟩ s1 M1 r1 => by
    subst e
    cases r1
    refine ⟨b, rfl, ?_⟩
    cases b with
    | false => exact (show EW K tb δ m1 Q from q1) σ H1 (s.mono s1) M1 QQ fun d m2 v2 H2 q2 s2 M2 r2 => k d m2 v2 H2 q2 (s1.trans s2) M2 r2
    | true => exact k _ m1 _ H1 q1 s1 M1 (.bl true)
theorem ew_notV (h : EW K ta δ m fun x m1 => ∃ b, x = .bl b ∧ Q (.bl (!b)) m1) : EW K (tNotV ta) δ m Q := fun σ H s M QQ k =>
  h σ H s M _ fun x m1 v1 H1 ⟨b, e, q1⟩ s1 M1 r1 => by
    subst e
    cases r1
    exact ⟨b, rfl, k _ m1 _ H1 q1 s1 M1 (.bl _)⟩
theorem ew_chain {r r' : R2} (h : EW K ta δ m fun x m1 => EW K tb δ m1 fun y m2 => OW K r x y m2 fun z m3 => ∃ b, z = .bl b ∧ if b = true then EW K tc δ m3 fun w m4 => OW K r' y w m4 Q else Q (.bl false) m3) : EW K (tChain r r' ta tb tc) δ m Q := fun σ H s M QQ k =>
  h σ H s M _ fun x m1 v1 H1 q1 s1 M1 r1 => q1 σ H1 (s.mono s1) M1 _ fun y m2 v2 H2 q2 s2 M2 r2 => q2 H2 v1 v2 M2 (r1.mono s2) r2 _ fun d m3 v3 H3 ⟨b, e, q3⟩ s3 M3 r3 => by
    subst e
    cases r3
    refine ⟨b, rfl, ?_⟩
    cases b with
    | true => exact (show EW K tc δ m3 _ from q3) σ H3 (s.mono (s1.trans (s2.trans s3))) M3 _ fun w m4 v4 H4 q4 s4 M4 r4 => q4 H4 v2 v4 M4 (r2.mono (s3.trans s4)) r4 _ fun d m5 v5 H5 q5 s5 M5 r5 => k d m5 v5 H5 q5 ((s1.trans (s2.trans s3)).trans (s4.trans s5)) M5 r5
    | false => exact k _ m3 _ H3 q3 (s1.trans (s2.trans s3)) M3 (.bl false)

/-! ### tests -/
theorem tw_test {Q : Bool → Mem → Prop} (h : EW K te δ m fun x m1 => ∃ b, x = .bl b ∧ Q b m1) : TW K (tTest te) δ m Q := fun σ H s M QQ k =>
  h σ H s M _ fun x m1 v1 H1 ⟨b, e, q1⟩ s1 M1 r1 => by
    subst e
    cases r1
    exact ⟨b, rfl, k b m1 H1 q1 s1 M1⟩
theorem tw_B {Q : Bool → Mem → Prop} (h : EW K te δ m fun x m1 => ∃ b, x = .bl b ∧ Q b m1) : TW K (tB te) δ m Q := fun σ H s M QQ k =>
  h σ H s M _ fun x m1 v1 H1 ⟨b, e, q1⟩ s1 M1 r1 => by
    subst e
    cases r1
    exact ⟨b, rfl, k b m1 H1 q1 s1 M1⟩
theorem tw_and {Q : Bool → Mem → Prop} (h : TW K tt δ m fun b m1 => if b = true then TW K tu δ m1 Q else Q false m1) : TW K (tAnd tt tu) δ m Q := fun σ H s M QQ k =>
  h σ H s M _ fun b m1 H1 q1 s1 M1 => by
    cases b with
    | true => exact (show TW K tu δ m1 Q from q1) σ H1 (s.mono s1) M1 QQ fun b m2 H2 q2 s2 M2 => k b m2 H2 q2 (s1.trans s2) M2
    | false => exact k false m1 H1 q1 s1 M1
theorem tw_or {Q : Bool → Mem → Prop} (h : TW K tt δ m fun b m1 => if b = true then Q true m1 else TW K tu δ m1 Q) : TW K (tOr tt tu) δ m Q := fun σ H s M QQ k =>
  h σ H s M _ fun b m1 H1 q1 s1 M1 => by
    cases b with
    | false => exact (show TW K tu δ m1 Q from q1) σ H1 (s.mono s1) M1 QQ fun b m2 H2 q2 s2 M2 => k b m2 H2 q2 (s1.trans s2) M2
    | true => exact k true m1 H1 q1 s1 M1
theorem tw_not {Q : Bool → Mem → Prop} (h : TW K tt δ m fun b m1 => Q (!b) m1) : TW K (tNot tt) δ m Q := fun σ H s M QQ k => h σ H s M _ fun b m1 H1 q1 s1 M1 => k (!b) m1 H1 q1 s1 M1

/-! ### statements -/
theorem sw_seq (h : SW K t δ m { P with nx := fun δ' m' => SW K u δ' m' P }) : SW K (tSeq t u) δ m P := fun σ H s M E k =>
  h σ H s M { E with nx := u E } ⟨fun δ' m' σ' H' q e s' M' => q σ' H' s' M' E (k.mono e), k.rt, k.bk, k.ct⟩
theorem sw_next (q : P.nx δ m) : SW K tNext δ m P := fun σ H s M E k => k.nx δ m σ H q (Sub.refl _) s M
theorem sw_break (q : P.bk δ m) : SW K tBreak δ m P := fun σ H s M E k => k.bk δ m σ H q (Sub.refl _) s M
theorem sw_cont (q : P.ct δ m) : SW K tCont δ m P := fun σ H s M E k => k.ct δ m σ H q (Sub.refl _) s M
theorem sw_drop (h : EW K te δ m fun _ m1 => P.nx δ m1) : SW K (tDrop te) δ m P := fun σ H s M E k => h σ H s M _ fun d m1 v1 H1 q1 s1 M1 r1 => k.nx δ m1 σ H1 q1 s1 (s.mono s1) M1
theorem sw_ret (h : EW K te δ m P.rt) : SW K (tRet te) δ m P := fun σ H s M E k => h σ H s M _ fun d m1 v1 H1 q1 s1 M1 r1 => k.rt d m1 v1 H1 q1 s1 M1 r1
theorem sw_retN (q : P.rt .non m) : SW K tRetN δ m P := fun σ H s M E k => k.rt .non m .non H q (Sub.refl _) M .non
theorem sw_if (h : TW K tt δ m fun b m1 => if b = true then SW K t δ m1 P else SW K u δ m1 P) : SW K (tIfS tt t u) δ m P := fun σ H s M E k =>
  h σ H s M _ fun b m1 H1 q1 s1 M1 => by
    cases b with
    | true => exact (show SW K t δ m1 P from q1) σ H1 (s.mono s1) M1 E (k.mono s1)
    | false => exact (show SW K u δ m1 P from q1) σ H1 (s.mono s1) M1 E (k.mono s1)
theorem sw_asg {i : Nat} (h : EW K te δ m fun d m1 => P.nx (δ.set i (some d)) m1) : SW K (tAsg te (gName i)) δ m P := fun σ H s M E k =>
  h σ H s M _ fun d m1 v1 H1 q1 s1 M1 r1 => k.nx _ m1 _ H1 q1 s1 ((s.mono s1).set i r1) M1
/-- what holds in between is told once -/
theorem sw_mid {P' : Ps} (h : SW K t δ m P') (n : ∀ δ' m', P'.nx δ' m' → P.nx δ' m') (r : ∀ d m', P'.rt d m' → P.rt d m') (b : ∀ δ' m', P'.bk δ' m' → P.bk δ' m') (c : ∀ δ' m', P'.ct δ' m' → P.ct δ' m') : SW K t δ m P := fun σ H s M E k =>
  h σ H s M E ⟨fun δ' m' σ' H' q => k.nx δ' m' σ' H' (n _ _ q), fun δ' m' σ' H' q => k.rt δ' m' σ' H' (r _ _ q), fun δ' m' σ' H' q => k.bk δ' m' σ' H' (b _ _ q), fun δ' m' σ' H' q => k.ct δ' m' σ' H' (c _ _ q)⟩
end
end DL

set_option Elab.async false
set_option linter.all false
set_option maxRecDepth 100000
set_option autoImplicit false
namespace DL
open PySem PySem.Spec PyProof.Rows L2

/-! ### what a def promises, in data -/
abbrev FS := List D → Mem → (D → Mem → Prop) → Prop
def spOf (K : PySem.W.Frag) (Pf : FS) : Sp := fun vs H Q _ => ∃ (ds : List D) (m : Mem) (QS : D → Mem → Prop), RdL K (hide m H) vs ds ∧ MemOk K m H ∧ Pf ds m QS ∧
  ∀ (d : D) (m' : Mem) (v : V) (H' : Hp), QS d m' → Sub (hide m H) (hide m' H') → MemOk K m' H' → Rd K (hide m' H') v d → Q v H'
def startD (n : Nat) (ds : List D) : List (Option D) := ds.map some ++ List.replicate (n - ds.length) none
theorem sl_start {K : PySem.W.Frag} {F : Hp} {N : List Str} {vs : List V} {ds : List D} (r : RdL K F vs ds) : Sl K F (L2.start N vs) (startD N.length ds) := by
  have l := r.length
  refine ⟨by simp [L2.start, startD, l], fun i d e => ?_⟩
  unfold startD at e
  unfold L2.start
  by_cases h : i < ds.length
  · rw [List.getElem?_append_left (by simpa using h), List.getElem?_map] at e
    rw [List.getElem?_append_left (by simpa [l] using h), List.getElem?_map]
    cases q : ds[i]? with
    | none => rw [q] at e; cases e
    | some x =>
      rw [q] at e
      cases e
      obtain ⟨v, a, b⟩ := r.get q
      exact ⟨v, by rw [a] <;> rfl, b⟩
  · rw [List.getElem?_append_right (by simpa using h), List.getElem?_replicate] at e
    split at e <;> cases e
section
variable {P : Program} {w : World} {K : PySem.W.Frag} {mg : Str → Option Value} {base : Heap}
/-- a def of the text as it stands behind the top, whatever its defaults are -/
structure Fnc (K : PySem.W.Frag) (x qual : Str) (st : Stmt) (f : Addr) (fd : FuncData) : Prop where
  is : ∃ (oc : Value) (od : Option Addr) (dV kV dc pm : Value) (an : Option Addr) (cd ct : Value) (sl : Array (Option Value)),
    fd = PySem.W.fnOf x qual (defArgs st) (defBody st) (defScope st) dV kV dc pm an cd ct ∧ PySem.W.codeIn K cd qual = true ∧ K.lookup f = some ⟨oc, od, .func fd, sl⟩
theorem okD {x qual : Str} {st : Stmt} {f : Addr} {fd : FuncData} {N ps : List Str} {k : Nat} {Pf : FS} (F : Fnc K x qual st f fd) (S : FnScope N ps (defScope st)) {t : TS}
    (hlen : ∀ ds m Q, Pf ds m Q → ds.length = ps.length)
    (hd : ∀ (cdv : Value) (A : Around) (outer : List Env) (s : Shared) (H : Hp) (E : XK), Room k (A.deeper (envOfC qual (defScope st) s.heap.objs.size f cdv)) → PSs (cxOf CX0 P w K mg base N qual (defScope st) f cdv A outer s H E).nox (defBody st) t)
    (hs : ∀ ds m (Q : D → Mem → Prop), Pf ds m Q → SW K t (startD N.length ds) m { nx := fun _ m' => Q .non m', rt := Q }) : FnOk P w K mg base CX0 (k + 1) f fd ps (spOf K Pf) := by
  obtain ⟨oc, od, dV, kV, dc, pm, an, cd, ct, sl, rfl, hcd, lk⟩ := F.is
  refine fn_of lk hcd S (fun vs H Q E h => ?_) (fun A outer s H vs Q E hr h => ⟨t, (hd cd A outer s H E hr).nox, ?_⟩)
  · obtain ⟨ds, m, QS, r, _, p, _⟩ := h
    rw [r.length]
    exact hlen _ _ _ p
  · obtain ⟨ds, m, QS, r, M, p, k⟩ := h
    exact hs ds m QS p _ _ (sl_start r) M _ ⟨fun δ' m' σ' H' q e s' M' => k .non m' .non H' q e M' .non, fun d m' v H' q e M' r' => k d m' v H' q e M' r', fun _ _ _ _ q => q.elim, fun _ _ _ _ q => q.elim⟩
end
section
variable {K : PySem.W.Frag} {δ : List (Option D)} {m : Mem} {Q : D → Mem → Prop} {t : TA} {Pf : FS} {E : XK}
/-- a call of a def: its promise at the arguments, then the defaults -/
theorem ew_call {dvs : List V} {dd : List D} (hd : ∀ F, RdL K F dvs dd) (h : AW K t δ m fun ds m1 => Pf (ds ++ dd) m1 Q) : EW K (tCall (spOf K Pf) dvs E t) δ m Q := fun σ H s M QQ k =>
  h σ H s M _ fun ds m1 vs H1 q1 s1 M1 r1 => ⟨ds ++ dd, m1, Q, r1.append (hd _), M1, q1, fun d m' v H' q e M' r => k d m' v H' q (s1.trans e) M' r⟩
theorem ew_call0 (h : AW K t δ m fun ds m1 => Pf ds m1 Q) : EW K (tCall (spOf K Pf) [] E t) δ m Q := fun σ H s M QQ k =>
  h σ H s M _ fun ds m1 vs H1 q1 s1 M1 r1 => ⟨ds, m1, Q, by rw [List.append_nil]; exact r1, M1, q1, fun d m' v H' q e M' r => k d m' v H' q (s1.trans e) M' r⟩
end

/-! ### the same where it is known that no guard is up (repr wants that) -/
structure FnG (P : Program) (w : World) (K : PySem.W.Frag) (mg : Str → Option Value) (base : Heap) (k : Nat) (f : Addr) (fd : FuncData) (ps : List Str) (sp : Sp) : Prop where
  long : ∀ vs H Q E, sp vs H Q E → vs.length = ps.length
  go : ∀ (A : Around) (up : List Env) (s : Shared) (H : Hp) (args : Args) (us : List Value) (vs : List V) (Q : VK), A.guards = some [] → Room k A → Env0 P w K mg base A up s H → BindsTo s fd args (ps.zip us) → Vals vs us → sp vs H Q E0 →
    codeAny (model P w) A (.call (.ref f) args) (CR CX0 up P w H s Q E0) s
section
variable {P : Program} {w : World} {K : PySem.W.Frag} {mg : Str → Option Value} {base : Heap} {f : Addr} {fd : FuncData} {ps : List Str} {sp : Sp} {k : Nat}
theorem FnG.of (F : FnOk P w K mg base CX0 k f fd ps sp) : FnG P w K mg base k f fd ps sp := ⟨F.len, fun A up s H args us vs Q _ hr => F.run A up s H args us vs Q E0 hr⟩
theorem FnG.up {j : Nat} (F : FnG P w K mg base j f fd ps sp) (h : j ≤ k) : FnG P w K mg base k f fd ps sp := ⟨F.long, fun A up s H args us vs Q hg hr => F.go A up s H args us vs Q hg (hr.mono h)⟩
/-- a def, by its body, entered where no guard is up -/
theorem fn_inG {name qual : Str} {params : Arguments} {body : List Stmt} {scope : Scope} {dV kV doc pm cdv ct oc : Value} {an od : Option Addr} {osl : Array (Option Value)} {N : List Str}
    (lk : K.lookup f = some ⟨oc, od, .func (PySem.W.fnOf name qual params body scope dV kV doc pm an cdv ct), osl⟩) (hcd : PySem.W.codeIn K cdv qual = true) (S : FnScope N ps scope) (long : ∀ vs H Q E, sp vs H Q E → vs.length = ps.length)
    (hb : ∀ (A : Around) (up : List Env) (s : Shared) (H : Hp) (vs : List V) (Q : VK), A.guards = some [] → Room k (A.deeper (envOfC qual scope s.heap.objs.size f cdv)) → sp vs H Q E0 →
      ∃ t, PSs (cxOf CX0 P w K mg base N qual scope f cdv A up s H E0) body t ∧ t { nx := fun _ H' => Q .non H', rt := Q } (L2.start N vs) H) :
    FnG P w K mg base (k + 1) f (PySem.W.fnOf name qual params body scope dV kV doc pm an cdv ct) ps sp := by
  refine ⟨long, ?_⟩
  intro A up s H args us vs Q hg room e0 bind rel wish
  have n1 := long vs H Q E0 wish
  have kin : K.In s.heap := e0.mod.kin.keeps fun b o q => (e0.bs b o q).1
  have hlim : s.heap.NoLimit := e0.mod.nolimit.keeps fun b o q => (e0.bs b o q).1
  have kinds : ∀ y ∈ ps.zip us, scope.names.lookup y.1 = some .local ∨ (scope.names.lookup y.1 = some .cell ∧ ((cellsFrom (s.heap.objs.size + 1) scope.names []).lookup y.1).isSome = true) := by
    rintro ⟨n, v⟩ hy
    cases S.par n (List.of_mem_zip hy).1 with
    | inl a => exact Or.inl a
    | inr a => exact Or.inr ⟨a, PySem.W.cellsFrom_some _ _ _ (Or.inl a)⟩
  have enter := hb A up s H vs Q hg (room.deeper _) wish
  obtain ⟨t, der, rdg⟩ := enter
  apply codeAny_call_function room.depth (kin _ _ lk) rfl S.co S.gen rfl (PySem.W.codeRec_of kin hcd)
  apply bind
  apply wpAny_newFunctionEnv_cells S.kind kinds
  intro env he s1 x
  cases he
  refine ⟨hlim.keeps x.toInCall.keep, ?_⟩
  apply codeAny_func
  have inv : Inv (cxOf CX0 P w K mg base N qual scope f cdv A up s H E0) [] (L2.start N vs) H s1 := inv_start S room.hd e0 n1 rel x
  apply wpAny_mono (der.run [] s1 (L2.start N vs) H _ inv rdg)
  · intro fl s2 q
    have close : ∀ (σ2 : L2.St) (H2 : Hp) (v : V) (u : Value), Inv (cxOf CX0 P w K mg base N qual scope f cdv A up s H E0) [] σ2 H2 s2 → RelV v u → Q v H2 → CE up P w H s Q u s2 := fun σ2 H2 v u J a b => ⟨v, H2, J.os, J.bare, J.base, J.hok, a, b⟩
    match fl, q with
    | .ret u, ⟨v, σ2, H2, J, a, b⟩ => exact close σ2 H2 v u J a b
    | .next, ⟨σ2, H2, J, b⟩ => exact close σ2 H2 V.non Value.none J rfl b
    | .brk, ⟨_, _, _, b⟩ => exact b.elim
    | .cont, ⟨_, _, _, b⟩ => exact b.elim
  · intro e s2 q
    exact q
theorem okG {x qual : Str} {st : Stmt} {N : List Str} {Pf : FS} (F : Fnc K x qual st f fd) (S : FnScope N ps (defScope st)) {t : TS}
    (hlen : ∀ ds m Q, Pf ds m Q → ds.length = ps.length)
    (hd : ∀ (cdv : Value) (A : Around) (outer : List Env) (s : Shared) (H : Hp), A.guards = some [] → Room k (A.deeper (envOfC qual (defScope st) s.heap.objs.size f cdv)) → PSs (cxOf CX0 P w K mg base N qual (defScope st) f cdv A outer s H E0).nox (defBody st) t)
    (hs : ∀ ds m (Q : D → Mem → Prop), Pf ds m Q → SW K t (startD N.length ds) m { nx := fun _ m' => Q .non m', rt := Q }) : FnG P w K mg base (k + 1) f fd ps (spOf K Pf) := by
  obtain ⟨oc, od, dV, kV, dc, pm, an, cd, ct, sl, rfl, hcd, lk⟩ := F.is
  refine fn_inG lk hcd S (fun vs H Q E h => ?_) (fun A outer s H vs Q hg hr h => ⟨t, (hd cd A outer s H hg hr).nox, ?_⟩)
  · obtain ⟨ds, m, QS, r, _, p, _⟩ := h
    rw [r.length]
    exact hlen _ _ _ p
  · obtain ⟨ds, m, QS, r, M, p, k⟩ := h
    exact hs ds m QS p _ _ (sl_start r) M _ ⟨fun δ' m' σ' H' q e s' M' => k .non m' .non H' q e M' .non, fun d m' v H' q e M' r' => k d m' v H' q e M' r', fun _ _ _ _ q => q.elim, fun _ _ _ _ q => q.elim⟩
end
section
variable {X : Cx} {k : Nat} {f : Addr} {fd : FuncData} {ps : List Str} {sp : Sp} {dvs : List V} {ds : List Value} {x : Str} {p pos : Pos} {e : Expr} {es : List Expr} {t : TA}
theorem pe_callG (hg0 : X.A.guards = some []) (F : FnG X.prog X.w X.K X.mg X.base k f fd ps sp) (hr : Room k X.A) (hg : Gl X x) (hm : X.mg x = some (.ref f)) (hk : PySem.W.keepIn X.K (.ref f) = true) (hb : Binds X.K fd ps ds) (hd : Vals dvs ds)
    (ha : PA X (e :: es) t) (hdb : (x == ("__debug__" : Str)) = false := by decide) (he : starEach (e :: es) X.env = (false, eval e X.env) :: starEach es X.env := by rfl) (hpl : (backTo pos (starEach es X.env)).any (·.1) = false := by rfl) :
    PE X (.Call (.Name x p) (e :: es) [] pos) (tCall sp dvs E0 t) := by
  constructor
  intro pins s σ H Q I h
  apply wpAny_Call_Name_kw
  refine ld_glob I hg hm ?_ hdb
  apply PySem.W.callWith_K (h₀ := X.base) I.ok.mod.kin hk _ he hpl
  refine thn (ha.run pos pins s σ H _ I h) ?_
  rintro us s1 ⟨vs, H1, I1, r, q⟩
  refine ⟨I1.kIn, ?_⟩
  have rr : Vals (vs ++ dvs) (us ++ ds) := r.append hd
  have hl : (us ++ ds).length = ps.length := rr.length.symm.trans (F.long _ _ _ _ q)
  apply wpAny_call
  refine codeAny_mono (F.go X.A X.stack s1 H1 ⟨us, []⟩ (us ++ ds) (vs ++ dvs) Q hg0 hr I1.env0 (hb s1 us I1.kIn hl) rr q) ?_
  intro res s2 c
  match res, c with
  | .error _, c => exact c.elim
  | .ok (.ret u), c => exact I1.after c
  | .ok .next, c => exact c.elim
  | .ok .brk, c => exact c.elim
  | .ok .cont, c => exact c.elim
end
end DL

set_option Elab.async false
set_option linter.all false
set_option maxRecDepth 100000
set_option maxHeartbeats 1000000
set_option autoImplicit false
namespace DL
open PySem PySem.Spec PyProof.Rows L2

/-! ### data that may be compared and shown -/
def D.fl : Nat → D → Bool
  | _, .non => true
  | _, .bl _ => true
  | _, .int _ => true
  | _, .str x => PyData.strOk x
  | n + 1, .lst xs => xs.all (D.fl n)
  | n + 1, .tup xs => xs.all (D.fl n)
  | _, _ => false
mutual
def D.py : D → PyData
  | .non => .none
  | .bl b => .bool b
  | .int i => .int i
  | .str x => .str x
  | .lst xs => .list (D.pyL xs)
  | .tup xs => .tuple (D.pyL xs)
  | .dic kvs => .dict (D.pyK kvs)
  | _ => .none
def D.pyL : List D → List PyData
  | [] => []
  | x :: xs => D.py x :: D.pyL xs
def D.pyK : List (Key × D) → List (PyData × PyData)
  | [] => []
  | (k, x) :: xs => ((match k with | .inl i => PyData.int i | .inr s => PyData.str s), D.py x) :: D.pyK xs
end
theorem pyL_map : ∀ xs : List D, D.pyL xs = xs.map D.py
  | [] => rfl
  | x :: xs => by rw [D.pyL, List.map_cons, pyL_map xs]
section
variable {K : PySem.W.Frag} {F : Hp}
theorem Rd.dp : ∀ (n : Nat) (d : D) (v : V), d.fl n = true → Rd K F v d → Dp K F v d.py := by
  intro n
  induction n with
  | zero =>
    intro d v h r
    cases r with
    | non => exact .non
    | bl b => exact .bl b
    | int i => exact .int i
    | str x => exact .str x
    | _ => simp [D.fl] at h
  | succ n ih =>
    have all : ∀ (ds : List D) (vs : List V), ds.all (D.fl n) = true → RdL K F vs ds → DpAll K F vs (D.pyL ds) := by
      intro ds
      induction ds with
      | nil => intro vs _ r; cases r; exact .nil
      | cons d ds ihl =>
        intro vs h r
        cases r with
        | cons r1 r2 =>
          rw [List.all_cons, Bool.and_eq_true] at h
          exact .cons (ih d _ h.1 r1) (ihl _ h.2 r2)
    intro d v h r
    cases r with
    | non => exact .non
    | bl b => exact .bl b
    | int i => exact .int i
    | str x => exact .str x
    | lst e r => exact .lst (SqL.of e) (all _ _ h r)
    | tup e r => exact .tup e (all _ _ h r)
    | _ => simp [D.fl] at h
end
theorem fl_shaped : ∀ (n : Nat) (d : D), d.fl n = true → d.py.canLay0 = true ∧ d.py.depth ≤ n := by
  intro n
  induction n with
  | zero => intro d h; cases d <;> simp_all [D.fl, D.py, PyData.canLay0, PyData.depth]
  | succ n ih =>
    have all : ∀ ds : List D, ds.all (D.fl n) = true → PyData.canLayAll0 (D.pyL ds) = true ∧ PyData.depthAll (D.pyL ds) ≤ n := by
      intro ds
      induction ds with
      | nil => intro _; simp [D.pyL, PyData.canLayAll0, PyData.depthAll]
      | cons d ds ihl =>
        intro h
        rw [List.all_cons, Bool.and_eq_true] at h
        have a := ih d h.1
        have b := ihl h.2
        simp only [D.pyL, PyData.canLayAll0, PyData.depthAll, Bool.and_eq_true]
        exact ⟨⟨a.1, b.1⟩, by omega⟩
    intro d h
    cases d with
    | lst xs =>
      have := all xs h
      simp only [D.py, PyData.canLay0, PyData.depth]
      exact ⟨this.1, by omega⟩
    | tup xs =>
      have := all xs h
      simp only [D.py, PyData.canLay0, PyData.depth]
      exact ⟨this.1, by omega⟩
    | _ => simp_all [D.fl, D.py, PyData.canLay0, PyData.depth]
theorem fl_ok {n : Nat} {d : D} (h : d.fl n = true) (hn : n ≤ 64) : SeqAt.shaped d.py = true := by
  have := fl_shaped n d h
  show (d.py.canLay0 && decide (d.py.depth ≤ 64)) = true
  rw [this.1, decide_eq_true (by omega)]
  rfl
theorem eqv_same {n : Nat} {d : D} (h : d.fl n = true) : PyData.eqv d.py d.py = true := SeqAt.eqv_refl _ (fl_shaped n d h).1

section
variable {K : PySem.W.Frag} {δ : List (Option D)} {m : Mem} {Q : D → Mem → Prop} {te ta tb tc : TE}
theorem Rd.top {H : Hp} {v : V} {d : D} (r : Rd K (hide m H) v d) : Rd K H v d := r.mono hide_le
/-! ### operations whose answer is a plain value -/
theorem ow_or1 {r r' : R2} {x y : D} (h : OW K r x y m Q) : OW K (fun x y H Q => r x y H Q ∨ r' x y H Q) x y m Q := fun H v w M a b QQ k => .inl (h H v w M a b QQ k)
theorem ow_or2 {r r' : R2} {x y : D} (h : OW K r' x y m Q) : OW K (fun x y H Q => r x y H Q ∨ r' x y H Q) x y m Q := fun H v w M a b QQ k => .inr (h H v w M a b QQ k)
theorem cw_or1 {r r' : List V → Hp → VK → Prop} {xs : List D} (h : CW K r xs m Q) : CW K (fun x H Q => r x H Q ∨ r' x H Q) xs m Q := fun H v M a QQ k => .inl (h H v M a QQ k)
theorem cw_or2 {r r' : List V → Hp → VK → Prop} {xs : List D} (h : CW K r' xs m Q) : CW K (fun x H Q => r x H Q ∨ r' x H Q) xs m Q := fun H v M a QQ k => .inr (h H v M a QQ k)
theorem ow_i0 {g : Int → Int → Int} {i j : Int} (q : Q (.int (g i j)) m) : OW K (rI0 fun i j => V.int (g i j)) (.int i) (.int j) m Q := fun H v w M a b QQ k => by
  cases a; cases b
  exact ⟨i, j, rfl, rfl, k _ m _ H q (Sub.refl _) M (.int _)⟩
theorem ow_b0 {g : Int → Int → Bool} {i j : Int} (q : Q (.bl (g i j)) m) : OW K (rI0 fun i j => V.bl (g i j)) (.int i) (.int j) m Q := fun H v w M a b QQ k => by
  cases a; cases b
  exact ⟨i, j, rfl, rfl, k _ m _ H q (Sub.refl _) M (.bl _)⟩
theorem ow_ic {C : Int → Int → Prop} {g : Int → Int → Int} {i j : Int} (c : C i j) (q : Q (.int (g i j)) m) : OW K (rI C fun i j => V.int (g i j)) (.int i) (.int j) m Q := fun H v w M a b QQ k => by
  cases a; cases b
  exact ⟨i, j, rfl, rfl, c, k _ m _ H q (Sub.refl _) M (.int _)⟩
theorem uw_neg {i : Int} (q : Q (.int (-i)) m) : UW K (rU fun i => V.int (-i)) (.int i) m Q := fun H v M a QQ k => by
  cases a
  exact ⟨i, rfl, k _ m _ H q (Sub.refl _) M (.int _)⟩
def rAddS : R2 := fun x y H Q => ∃ i j, x = .str i ∧ y = .str j ∧ i.length + j.length ≤ sizeLine ∧ Q (.str (i ++ j)) H
def rAddU : R2 := fun x y H Q => rI0 (fun i j => .int (i + j)) x y H Q ∨ (rAddS x y H Q ∨ rCat x y H Q)
theorem op_addU {X : Cx} : OpR X (binaryOp .Add) rAddU := OpR.or op_add (OpR.or op_add_str op_cat)
theorem ow_addI {i j : Int} (q : Q (.int (i + j)) m) : OW K rAddU (.int i) (.int j) m Q := ow_or1 (ow_i0 (g := fun i j => i + j) q)
theorem ow_addS {i j : Str} (h : i.length + j.length ≤ sizeLine) (q : Q (.str (i ++ j)) m) : OW K rAddU (.str i) (.str j) m Q := fun H v w M a b QQ k => by
  cases a; cases b
  exact .inr (.inl ⟨i, j, rfl, rfl, h, k _ m _ H q (Sub.refl _) M (.str _)⟩)
theorem new_lst {H : Hp} {p : Addr} {vs : List V} {ds : List D} (M : MemOk K m H) (r : RdL K (hide m H) vs ds) (hp : H p = none) : MemOk K m (upd H p (.lst vs)) ∧ Sub (hide m H) (hide m (upd H p (.lst vs))) ∧ Rd K (hide m (upd H p (.lst vs))) (.ref p) (.lst ds) := by
  obtain ⟨M2, s2⟩ := M.new (o := .lst vs) hp
  refine ⟨M2, s2, .lst ?_ (r.mono s2)⟩
  rw [hide_new M hp]
  exact upd_same
theorem new_lstM {H : Hp} {p : Addr} {vs : List V} {ds : List D} (M : MemOk K m H) (r : RdL K (hide m H) vs ds) (hp : H p = none) : MemOk K (m ++ [(p, .lst ds)]) (upd H p (.lst vs)) ∧ Sub (hide m H) (hide (m ++ [(p, .lst ds)]) (upd H p (.lst vs))) := by
  have e : hide (m ++ [(p, Cell.lst ds)]) (upd H p (.lst vs)) = hide m H := hide_cell hp
  exact ⟨M.cell (c := .lst ds) hp ⟨vs, upd_same, r⟩, by rw [e]; exact Sub.refl _⟩
theorem new_tup {H : Hp} {p : Addr} {vs : List V} {ds : List D} (M : MemOk K m H) (r : RdL K (hide m H) vs ds) (hp : H p = none) : MemOk K m (upd H p (.tup vs)) ∧ Sub (hide m H) (hide m (upd H p (.tup vs))) ∧ Rd K (hide m (upd H p (.tup vs))) (.ref p) (.tup ds) := by
  obtain ⟨M2, s2⟩ := M.new (o := .tup vs) hp
  refine ⟨M2, s2, .tup ?_ (r.mono s2)⟩
  rw [hide_new M hp]
  exact .inl (.inl upd_same)
theorem lst_at {H : Hp} {v : V} {ds : List D} (r : Rd K (hide m H) v (.lst ds)) : ∃ (a : Addr) (xs : List V), v = .ref a ∧ H a = some (.lst xs) ∧ RdL K (hide m H) xs ds := by
  cases r with
  | lst e r => exact ⟨_, _, rfl, hide_le _ _ e, r⟩
theorem tup_at {H : Hp} {v : V} {ds : List D} (r : Rd K (hide m H) v (.tup ds)) : ∃ (a : Addr) (xs : List V), v = .ref a ∧ SqT K H a xs ∧ RdL K (hide m H) xs ds := by
  cases r with
  | tup e r => exact ⟨_, _, rfl, hide_le.sqt e, r⟩
theorem cell_at {H : Hp} {i : Nat} {p : Addr} {ds : List D} (M : MemOk K m H) (h : m[i]? = some (p, .lst ds)) : ∃ xs : List V, H p = some (.lst xs) ∧ RdL K (hide m H) xs ds := M.get h
theorem ow_addL {xs ys : List D} (h : xs.length + ys.length ≤ sizeLine) (q : Q (.lst (xs ++ ys)) m) : OW K rAddU (.lst xs) (.lst ys) m Q := fun H v w M a b QQ k => by
  obtain ⟨p, vs, rfl, e1, r1⟩ := lst_at a
  obtain ⟨p', ws, rfl, e2, r2⟩ := lst_at b
  refine .inr (.inr ⟨p, p', vs, ws, rfl, rfl, e1, e2, by rw [r1.length, r2.length]; exact h, fun z hz => ?_⟩)
  obtain ⟨M2, s2, r3⟩ := new_lst M (r1.append r2) hz
  exact k _ m _ _ q s2 M2 r3
/-! ### == and != of data -/
theorem ow_eq {n : Nat} {x y : D} (hn : n ≤ 64) (hx : x.fl n = true) (hy : y.fl n = true) (q : Q (.bl (PyData.eqv x.py y.py)) m) : OW K (rEqD K) x y m Q := fun H v w M a b QQ k =>
  ⟨x.py, y.py, Rd.dp n x v hx a.top, Rd.dp n y w hy b.top, fl_ok hx hn, fl_ok hy hn, k _ m _ H q (Sub.refl _) M (.bl _)⟩
theorem ow_ne {n : Nat} {x y : D} (hn : n ≤ 64) (hx : x.fl n = true) (hy : y.fl n = true) (q : Q (.bl (!PyData.eqv x.py y.py)) m) : OW K (rNeD K) x y m Q := fun H v w M a b QQ k =>
  ⟨x.py, y.py, Rd.dp n x v hx a.top, Rd.dp n y w hy b.top, fl_ok hx hn, fl_ok hy hn, k _ m _ H q (Sub.refl _) M (.bl _)⟩
theorem ow_eqI {i j : Int} (q : Q (.bl (decide (i = j))) m) : OW K (rEqD K) (.int i) (.int j) m Q := ow_eq (n := 0) (by decide) rfl rfl (by
  have : PyData.eqv (D.int i).py (D.int j).py = decide (i = j) := by simp only [D.py, PyData.eqv]; rfl
  rw [this]; exact q)
theorem ow_neI {i j : Int} (q : Q (.bl (!decide (i = j))) m) : OW K (rNeD K) (.int i) (.int j) m Q := ow_ne (n := 0) (by decide) rfl rfl (by
  have : PyData.eqv (D.int i).py (D.int j).py = decide (i = j) := by simp only [D.py, PyData.eqv]; rfl
  rw [this]; exact q)
theorem ow_eqSame {n : Nat} {x y : D} (e : x = y) (hn : n ≤ 64) (hx : x.fl n = true) (q : Q (.bl true) m) : OW K (rEqD K) x y m Q := by
  subst e
  exact ow_eq hn hx hx (by rw [eqv_same hx]; exact q)
theorem ow_neSame {n : Nat} {x y : D} (e : x = y) (hn : n ≤ 64) (hx : x.fl n = true) (q : Q (.bl false) m) : OW K (rNeD K) x y m Q := by
  subst e
  exact ow_ne hn hx hx (by rw [eqv_same hx]; exact q)
/-- is None -/
def D.isNon : D → Bool
  | .non => true
  | _ => false
theorem isNon_v {F : Hp} {v : V} {d : D} (r : Rd K F v d) : decide (v = .non) = d.isNon := by cases r <;> rfl
def rIsN1 : R2 := fun x y H Q => y = .non ∧ Q (.bl (decide (x = .non))) H
def rNotN1 : R2 := fun x y H Q => y = .non ∧ Q (.bl (!decide (x = .non))) H
theorem op_isN2 {X : Cx} : OpR X (compareOp .Is) rIsN1 := op_isN
theorem op_notN2 {X : Cx} : OpR X (compareOp .IsNot) rNotN1 := op_notN
theorem ow_isN {x : D} (q : Q (.bl x.isNon) m) : OW K rIsN1 x .non m Q := fun H v w M a b QQ k => by
  cases b
  exact ⟨rfl, k _ m _ H q (Sub.refl _) M (by rw [isNon_v a]; exact .bl _)⟩
theorem ow_notN {x : D} (q : Q (.bl (!x.isNon)) m) : OW K rNotN1 x .non m Q := fun H v w M a b QQ k => by
  cases b
  exact ⟨rfl, k _ m _ H q (Sub.refl _) M (by rw [isNon_v a]; exact .bl _)⟩
end
end DL

set_option Elab.async false
set_option linter.all false
set_option maxRecDepth 100000
set_option maxHeartbeats 1000000
set_option autoImplicit false
namespace DL
open PySem PySem.Spec PyProof.Rows L2
section
variable {K : PySem.W.Frag} {δ : List (Option D)} {m : Mem} {Q : D → Mem → Prop} {te ta tb tc : TE} {F : Hp}
theorem RdL.atI {vs : List V} {ds : List D} {i : Int} {d : D} (r : RdL K F vs ds) (h : L2.atI ds i = some d) : ∃ v, L2.atI vs i = some v ∧ Rd K F v d := by
  unfold L2.atI at h ⊢
  rw [r.length]
  cases q : ixN ds.length i with
  | none => rw [q] at h; cases h
  | some j =>
    rw [q] at h
    obtain ⟨v, a, b⟩ := r.get (show ds[j]? = some d from h)
    exact ⟨v, a, b⟩
theorem atI_lt {α : Type} {xs : List α} {i : Int} {x : α} (h0 : 0 ≤ i) (h : xs[i.toNat]? = some x) : L2.atI xs i = some x := by
  have e : ((i.toNat : Nat) : Int) = i := by omega
  rw [← e]
  exact atI_nat h
def cutD (ds : List D) (lo hi : Option Int) : List D := (ds.drop (HT.sIx ds.length 0 lo)).take (HT.sIx ds.length ds.length hi - HT.sIx ds.length 0 lo)
theorem RdL.cut {vs : List V} {ds : List D} (lo hi : Option Int) (r : RdL K F vs ds) : RdL K F (cutV vs lo hi) (cutD ds lo hi) := by
  unfold cutV cutD
  rw [r.length]
  exact (r.drop _).take _
/-! ### subscripts: list, tuple, text by a number; dict by a key -/
def rIxDc : R2 := fun x y H Q => ∃ (a : Addr) (z : V), x = .ref a ∧ DGet H a y (some z) ∧ Q z H
theorem ix_dct {X : Cx} (hu : X.A.units + 64 < cLine) : IxR X rIxDc := by
  intro value slice pins s σ H x y v u Q I rx ry h hs
  obtain ⟨a, z, rfl, g, q⟩ := h
  cases rx
  refine tail_any (dict_typeIs I g) PySem.F.slot_dict_getitem.lookup ?_ hs
  exact d_getItem (by omega) I g ry fun w' s3 I3 rw' => ⟨z, H, I3, rw', q⟩
def rIxU (K : PySem.W.Frag) : R2 := fun x y H Q => rIxL K x y H Q ∨ (rIxT K x y H Q ∨ (rIxS x y H Q ∨ rIxDc x y H Q))
theorem ix_U {X : Cx} (hu : X.A.units + 64 < cLine) : IxR X (rIxU X.K) := IxR.or ix_list (IxR.or ix_tup (IxR.or ix_str (ix_dct hu)))
theorem ow_ixL {ds : List D} {i : Int} {d : D} (h : L2.atI ds i = some d) (q : Q d m) : OW K (rIxU K) (.lst ds) (.int i) m Q := fun H v w M a b QQ k => by
  obtain ⟨p, vs, rfl, e, r⟩ := lst_at a
  cases b
  obtain ⟨z, h1, h2⟩ := r.atI h
  exact .inl ⟨p, vs, i, z, rfl, rfl, SqL.of e, h1, k d m z H q (Sub.refl _) M h2⟩
theorem ow_ixM {j : Nat} {p : Addr} {ds : List D} {i : Int} {d : D} (hm : m[j]? = some (p, .lst ds)) (h : L2.atI ds i = some d) (q : Q d m) : OW K (rIxU K) (.adr p) (.int i) m Q := fun H v w M a b QQ k => by
  obtain ⟨vs, e, r⟩ := cell_at M hm
  cases a
  cases b
  obtain ⟨z, h1, h2⟩ := r.atI h
  exact .inl ⟨p, vs, i, z, rfl, rfl, SqL.of e, h1, k d m z H q (Sub.refl _) M h2⟩
theorem ow_ixR {ns : List Int} {i : Int} {n : Int} (h : L2.atI ns i = some n) (q : Q (.int n) m) : OW K (rIxU K) (.scr ns) (.int i) m Q := fun H v w M a b QQ k => by
  cases a with
  | scr e =>
    cases b
    refine .inl ⟨_, _, i, .int n, rfl, rfl, hide_le.sql e, ?_, k _ m _ H q (Sub.refl _) M (.int n)⟩
    unfold L2.atI at h ⊢
    rw [List.length_map]
    cases z : ixN ns.length i with
    | none => rw [z] at h; cases h
    | some j =>
      rw [z] at h
      have h' : ns[j]? = some n := h
      show (ns.map V.int)[j]? = some (V.int n)
      rw [List.getElem?_map, h']
      rfl
theorem ow_ixT {ds : List D} {i : Int} {d : D} (h : L2.atI ds i = some d) (q : Q d m) : OW K (rIxU K) (.tup ds) (.int i) m Q := fun H v w M a b QQ k => by
  obtain ⟨p, vs, rfl, e, r⟩ := tup_at a
  cases b
  obtain ⟨z, h1, h2⟩ := r.atI h
  exact .inr (.inl ⟨p, vs, i, z, rfl, rfl, e, h1, k d m z H q (Sub.refl _) M h2⟩)
theorem ow_ixS {x : Str} {i : Int} {c : Nat} (hz : x.length ≤ sizeLine) (h : L2.atI x.cps.toList i = some c) (q : Q (.str ⟨#[c]⟩) m) : OW K (rIxU K) (.str x) (.int i) m Q := fun H v w M a b QQ k => by
  cases a
  cases b
  exact .inr (.inr (.inl ⟨x, i, c, rfl, rfl, hz, h, k _ m _ H q (Sub.refl _) M (.str _)⟩))
/-- what a dict of data tells of a key -/
def valD (kvs : List (Key × D)) (k : Key) : Option D := (kvs.find? fun kv => decide (kv.1 = k)).map (·.2)
theorem RdL.valV : ∀ {vs : List (Key × V)} {ds : List (Key × D)} (k : Key), vs.map Prod.fst = ds.map Prod.fst → RdL K F (vs.map Prod.snd) (ds.map Prod.snd) → (∀ d, valD ds k = some d → ∃ v, L2.valV vs k = some v ∧ Rd K F v d) ∧ (valD ds k = none → L2.valV vs k = none)
  | [], [], _, _, _ => ⟨fun d h => by simp [valD] at h, fun _ => rfl⟩
  | [], _ :: _, _, h, _ => by simp at h
  | _ :: _, [], _, h, _ => by simp at h
  | (k1, v1) :: vs, (k2, d2) :: ds, k, h, r => by
    simp only [List.map_cons, List.cons.injEq] at h
    obtain ⟨h1, h2⟩ := h
    subst h1
    cases r with
    | cons r1 r2 =>
      have ih := RdL.valV k h2 r2
      by_cases e : k1 = k
      · subst e
        refine ⟨fun d hd => ⟨v1, valV_pos rfl, ?_⟩, fun hn => ?_⟩
        · simp [valD] at hd; subst hd; exact r1
        · simp [valD] at hn
      · have e1 : L2.valV ((k1, v1) :: vs) k = L2.valV vs k := valV_neg e
        have e2 : valD ((k1, d2) :: ds) k = valD ds k := by simp [valD, List.find?_cons, e]
        rw [e1, e2]
        exact ih
def kD : Key → D
  | .inl i => .int i
  | .inr x => .str x
theorem kD_v {v : V} {k : Key} (r : Rd K F v (kD k)) : v = kV k := by
  cases k <;> (cases r; rfl)
theorem dic_at {H : Hp} {v : V} {ds : List (Key × D)} (r : Rd K (hide m H) v (.dic ds)) : ∃ (a : Addr) (xs : List (Key × V)), v = .ref a ∧ H a = some (.dK xs) ∧ xs.map Prod.fst = ds.map Prod.fst ∧ RdL K (hide m H) (xs.map Prod.snd) (ds.map Prod.snd) := by
  cases r with
  | dic e n r => exact ⟨_, _, rfl, hide_le _ _ e, n, r⟩
theorem ow_ixD {kvs : List (Key × D)} {k : Key} {d : D} (h : valD kvs k = some d) (q : Q d m) : OW K (rIxU K) (.dic kvs) (kD k) m Q := fun H v w M a b QQ kk => by
  obtain ⟨p, xs, rfl, e, n, r⟩ := dic_at a
  obtain ⟨z, h1, h2⟩ := (RdL.valV k n r).1 d h
  have eb := kD_v b
  subst eb
  refine .inr (.inr (.inr ⟨p, z, rfl, ?_, kk d m z H q (Sub.refl _) M h2⟩))
  rw [← h1]
  exact DGet.k e
theorem ow_ixDs {kvs : List (Key × D)} {x : Str} {d : D} (h : valD kvs (.inr x) = some d) (q : Q d m) : OW K (rIxU K) (.dic kvs) (.str x) m Q := ow_ixD (k := .inr x) h q
theorem ow_ixDi {kvs : List (Key × D)} {x : Int} {d : D} (h : valD kvs (.inl x) = some d) (q : Q d m) : OW K (rIxU K) (.dic kvs) (.int x) m Q := ow_ixD (k := .inl x) h q
/-! ### slices -/
def rSlU (K : PySem.W.Frag) : V → Option Int → Option Int → Hp → VK → Prop := fun x lo hi H Q => rSlL K x lo hi H Q ∨ rSlS x lo hi H Q
theorem sl_U {X : Cx} : SlR X (rSlU X.K) := SlR.or sl_list sl_str
def PW (to : TO) (δ : List (Option D)) (m : Mem) (Q : Option Int → Mem → Prop) : Prop := ∀ (σ : L2.St) (H : Hp), Sl K (hide m H) σ δ → MemOk K m H → ∀ QQ : Option Int → Hp → Prop,
  (∀ (o : Option Int) (m' : Mem) (H' : Hp), Q o m' → Sub (hide m H) (hide m' H') → MemOk K m' H' → QQ o H') → to σ H QQ
theorem pw_no {Q : Option Int → Mem → Prop} (q : Q none m) : PW (K := K) tNoPart δ m Q := fun σ H s M QQ k => k none m H q (Sub.refl _) M
theorem pw_part {Q : Option Int → Mem → Prop} (h : EW K te δ m fun x m1 => ∃ i, x = .int i ∧ Q (some i) m1) : PW (K := K) (tPart te) δ m Q := fun σ H s M QQ k =>
  h σ H s M _ fun x m1 v H1 ⟨i, e, q⟩ s1 M1 r => by
    subst e
    cases r
    exact ⟨i, rfl, k (some i) m1 H1 q s1 M1⟩
/-- a slice by values -/
def LW (r : V → Option Int → Option Int → Hp → VK → Prop) (x : D) (lo hi : Option Int) (m : Mem) (Q : D → Mem → Prop) : Prop := ∀ (H : Hp) (v : V), MemOk K m H → Rd K (hide m H) v x → ∀ QQ : VK,
  (∀ (d : D) (m' : Mem) (u : V) (H' : Hp), Q d m' → Sub (hide m H) (hide m' H') → MemOk K m' H' → Rd K (hide m' H') u d → QQ u H') → r v lo hi H QQ
theorem ew_sl {r : V → Option Int → Option Int → Hp → VK → Prop} {tl th : TO} (h : EW K te δ m fun x m1 => PW (K := K) tl δ m1 fun lo m2 => PW (K := K) th δ m2 fun hi m3 => LW (K := K) r x lo hi m3 Q) : EW K (tSl r te tl th) δ m Q := fun σ H s M QQ k =>
  h σ H s M _ fun x m1 v1 H1 q1 s1 M1 r1 => q1 σ H1 (s.mono s1) M1 _ fun lo m2 H2 q2 s2 M2 => q2 σ H2 (s.mono (s1.trans s2)) M2 _ fun hi m3 H3 q3 s3 M3 => q3 H3 v1 M3 (r1.mono (s2.trans s3)) _ fun d m4 u H4 q4 s4 M4 r4 => k d m4 u H4 q4 (((s1.trans s2).trans s3).trans s4) M4 r4
theorem lw_L {ds : List D} {lo hi : Option Int} (q : Q (.lst (cutD ds lo hi)) m) : LW (K := K) (rSlU K) (.lst ds) lo hi m Q := fun H v M a QQ k => by
  obtain ⟨p, vs, rfl, e, r⟩ := lst_at a
  refine .inl ⟨p, vs, rfl, SqL.of e, fun z hz => ?_⟩
  obtain ⟨M2, s2, r3⟩ := new_lst M (r.cut lo hi) hz
  exact k _ m _ _ q s2 M2 r3
theorem lw_S {x : Str} {lo hi : Option Int} (hz : x.length ≤ sizeLine) (q : Q (.str (cutS x lo hi)) m) : LW (K := K) (rSlU K) (.str x) lo hi m Q := fun H v M a QQ k => by
  cases a
  exact .inr ⟨x, rfl, hz, k _ m _ H q (Sub.refl _) M (.str _)⟩
/-! ### built-in functions -/
def rLenU (K : PySem.W.Frag) : List V → Hp → VK → Prop := fun xs H Q => (∃ x n, xs = [x] ∧ LenV K x H n ∧ Q (.int n) H) ∨ (∃ a kvs, xs = [V.ref a] ∧ H a = some (.dK kvs) ∧ Q (.int kvs.length) H)
theorem cr_lenU {X : Cx} : CallR X (.builtin "len") (rLenU X.K) := CallR.or call_len call_lenD
theorem cw_lenL {ds : List D} (q : Q (.int (ds.length : Nat)) m) : CW K (rLenU K) [.lst ds] m Q := fun H vs M a QQ k => by
  cases a with
  | cons a n =>
    cases n
    obtain ⟨p, xs, rfl, e, r⟩ := lst_at a
    exact .inl ⟨_, xs.length, rfl, .inl ⟨xs, SqL.of e, rfl⟩, k _ m _ H q (Sub.refl _) M (by rw [r.length]; exact .int _)⟩
theorem cw_lenM {j : Nat} {p : Addr} {ds : List D} (hm : m[j]? = some (p, .lst ds)) (q : Q (.int (ds.length : Nat)) m) : CW K (rLenU K) [.adr p] m Q := fun H vs M a QQ k => by
  cases a with
  | cons a n =>
    cases n
    cases a
    obtain ⟨xs, e, r⟩ := cell_at M hm
    exact .inl ⟨_, xs.length, rfl, .inl ⟨xs, SqL.of e, rfl⟩, k _ m _ H q (Sub.refl _) M (by rw [r.length]; exact .int _)⟩
theorem cw_lenR {ns : List Int} (q : Q (.int (ns.length : Nat)) m) : CW K (rLenU K) [.scr ns] m Q := fun H vs M a QQ k => by
  cases a with
  | cons a n =>
    cases n
    cases a with
    | scr e => exact .inl ⟨_, (ns.map V.int).length, rfl, .inl ⟨_, hide_le.sql e, rfl⟩, k _ m _ H q (Sub.refl _) M (by rw [List.length_map]; exact .int _)⟩
theorem cw_lenS {x : Str} (hz : x.length ≤ sizeLine) (q : Q (.int (x.length : Nat)) m) : CW K (rLenU K) [.str x] m Q := fun H vs M a QQ k => by
  cases a with
  | cons a n =>
    cases n
    cases a
    exact .inl ⟨_, x.length, rfl, ⟨hz, rfl⟩, k _ m _ H q (Sub.refl _) M (.int _)⟩
def rInt1 : List V → Hp → VK → Prop := fun xs H Q => (∃ i, xs = [.int i] ∧ Q (.int i) H) ∨ ∃ k, xs = [.bl k] ∧ Q (.int (if k then 1 else 0)) H
theorem cr_int1 {X : Cx} : CallR X (.type "int") rInt1 := call_int1
theorem cw_int {i : Int} (q : Q (.int i) m) : CW K rInt1 [.int i] m Q := fun H vs M a QQ k => by
  cases a with
  | cons a n =>
    cases n
    cases a
    exact .inl ⟨i, rfl, k _ m _ H q (Sub.refl _) M (.int _)⟩
theorem cw_intB {b : Bool} (q : Q (.int (if b then 1 else 0)) m) : CW K rInt1 [.bl b] m Q := fun H vs M a QQ k => by
  cases a with
  | cons a n =>
    cases n
    cases a
    exact .inr ⟨b, rfl, k _ m _ H q (Sub.refl _) M (.int _)⟩
def rAbs1 : List V → Hp → VK → Prop := fun xs H Q => ∃ i, xs = [.int i] ∧ Q (.int (if i < 0 then -i else i)) H
theorem cr_abs {X : Cx} : CallR X (.builtin "abs") rAbs1 := call_abs
theorem cw_abs {i : Int} (q : Q (.int (if i < 0 then -i else i)) m) : CW K rAbs1 [.int i] m Q := fun H vs M a QQ k => by
  cases a with
  | cons a n =>
    cases n
    cases a
    exact ⟨i, rfl, k _ m _ H q (Sub.refl _) M (.int _)⟩
def rMx2 : List V → Hp → VK → Prop := fun xs H Q => ∃ i j, xs = [.int i, .int j] ∧ Q (.int (if j > i then j else i)) H
def rMn2 : List V → Hp → VK → Prop := fun xs H Q => ∃ i j, xs = [.int i, .int j] ∧ Q (.int (if j < i then j else i)) H
theorem cr_mx2 {X : Cx} (hc : X.calm = true) : CallR X (.builtin "max") rMx2 := call_max2 hc
theorem cr_mn2 {X : Cx} (hc : X.calm = true) : CallR X (.builtin "min") rMn2 := call_min2 hc
theorem cw_mx2 {i j : Int} (q : Q (.int (if j > i then j else i)) m) : CW K rMx2 [.int i, .int j] m Q := fun H vs M a QQ k => by
  cases a with
  | cons a n =>
    cases n with
    | cons b n =>
      cases n
      cases a
      cases b
      exact ⟨i, j, rfl, k _ m _ H q (Sub.refl _) M (.int _)⟩
theorem cw_mn2 {i j : Int} (q : Q (.int (if j < i then j else i)) m) : CW K rMn2 [.int i, .int j] m Q := fun H vs M a QQ k => by
  cases a with
  | cons a n =>
    cases n with
    | cons b n =>
      cases n
      cases a
      cases b
      exact ⟨i, j, rfl, k _ m _ H q (Sub.refl _) M (.int _)⟩
/-- list(x), tuple(x) of lists and tuples -/
def rListU (K : PySem.W.Frag) : List V → Hp → VK → Prop := fun xs H Q => ∃ p ys, xs = [.ref p] ∧ (SqL K H p ys ∨ SqT K H p ys) ∧ ∀ l, H l = none → Q (.ref l) (upd H l (.lst ys))
theorem cr_listU {X : Cx} : CallR X (.type "list") (rListU X.K) := call_list_of
theorem cw_listL {ds : List D} (q : Q (.lst ds) m) : CW K (rListU K) [.lst ds] m Q := fun H vs M a QQ k => by
  cases a with
  | cons a n =>
    cases n
    obtain ⟨p, xs, rfl, e, r⟩ := lst_at a
    refine ⟨p, xs, rfl, .inl (SqL.of e), fun z hz => ?_⟩
    obtain ⟨M2, s2, r3⟩ := new_lst M r hz
    exact k _ m _ _ q s2 M2 r3
theorem cw_listT {ds : List D} (q : Q (.lst ds) m) : CW K (rListU K) [.tup ds] m Q := fun H vs M a QQ k => by
  cases a with
  | cons a n =>
    cases n
    obtain ⟨p, xs, rfl, e, r⟩ := tup_at a
    refine ⟨p, xs, rfl, .inr e, fun z hz => ?_⟩
    obtain ⟨M2, s2, r3⟩ := new_lst M r hz
    exact k _ m _ _ q s2 M2 r3
theorem cw_listM {j : Nat} {p : Addr} {ds : List D} (hm : m[j]? = some (p, .lst ds)) (q : Q (.lst ds) m) : CW K (rListU K) [.adr p] m Q := fun H vs M a QQ k => by
  cases a with
  | cons a n =>
    cases n
    cases a
    obtain ⟨xs, e, r⟩ := cell_at M hm
    refine ⟨p, xs, rfl, .inl (SqL.of e), fun z hz => ?_⟩
    obtain ⟨M2, s2, r3⟩ := new_lst M r hz
    exact k _ m _ _ q s2 M2 r3
/-- the same, the new list a cell -/
theorem cw_listLM {ds : List D} (q : ∀ z, Q (.adr z) (m ++ [(z, .lst ds)])) : CW K (rListU K) [.lst ds] m Q := fun H vs M a QQ k => by
  cases a with
  | cons a n =>
    cases n
    obtain ⟨p, xs, rfl, e, r⟩ := lst_at a
    refine ⟨p, xs, rfl, .inl (SqL.of e), fun z hz => ?_⟩
    obtain ⟨M2, s2⟩ := new_lstM M r hz
    exact k _ _ _ _ (q z) s2 M2 (.adr z)
def rAll1 (K : PySem.W.Frag) : List V → Hp → VK → Prop := rAll K
theorem cw_all {bs : List Bool} (q : Q (.bl (bs.all id)) m) : CW K (rAll K) [.lst (bs.map D.bl)] m Q := fun H vs M a QQ k => by
  cases a with
  | cons a n =>
    cases n
    obtain ⟨p, xs, rfl, e, r⟩ := lst_at a
    have := r.bls_v
    subst this
    exact ⟨p, bs, rfl, SqL.of e, k _ m _ H q (Sub.refl _) M (.bl _)⟩
end
end DL

set_option Elab.async false
set_option linter.all false
set_option maxRecDepth 100000
set_option maxHeartbeats 1000000
set_option autoImplicit false
namespace DL
open PySem PySem.Spec PyProof.Rows L2
/-! ### targets -/
section
variable (K : PySem.W.Frag)
def GW (g : TG) (d : D) (δ : List (Option D)) (m : Mem) (Q : List (Option D) → Mem → Prop) : Prop := ∀ (σ : L2.St) (H : Hp) (v : V), Sl K (hide m H) σ δ → MemOk K m H → Rd K (hide m H) v d → ∀ QQ : L2.St → Hp → Prop,
  (∀ (δ' : List (Option D)) (m' : Mem) (σ' : L2.St) (H' : Hp), Q δ' m' → Sub (hide m H) (hide m' H') → Sl K (hide m' H') σ' δ' → MemOk K m' H' → QQ σ' H') → g v σ H QQ
def GsW (g : TGs) (ds : List D) (δ : List (Option D)) (m : Mem) (Q : List (Option D) → Mem → Prop) : Prop := ∀ (σ : L2.St) (H : Hp) (vs : List V), Sl K (hide m H) σ δ → MemOk K m H → RdL K (hide m H) vs ds → ∀ QQ : L2.St → Hp → Prop,
  (∀ (δ' : List (Option D)) (m' : Mem) (σ' : L2.St) (H' : Hp), Q δ' m' → Sub (hide m H) (hide m' H') → Sl K (hide m' H') σ' δ' → MemOk K m' H' → QQ σ' H') → g vs σ H QQ
/-- what is walked feeds these data, while F0 stands -/
structure Feeds (J : It) (F0 : Hp) (ds : List D) : Prop where
  go : ∀ (i : Nat) (m : Mem) (H : Hp), Sub F0 (hide m H) → MemOk K m H → i < ds.length → J.go i H
  yld : ∀ (i : Nat) (m : Mem) (H : Hp) (x : V) (H' : Hp) (d : D), Sub F0 (hide m H) → MemOk K m H → ds[i]? = some d → J.yld i H x H' → Sub (hide m H) (hide m H') ∧ MemOk K m H' ∧ Rd K (hide m H') x d
  stop : ∀ (m : Mem) (H : Hp), Sub F0 (hide m H) → MemOk K m H → J.stop ds.length H
def IW (wi : TI) (δ : List (Option D)) (m : Mem) (Q : List D → Mem → Prop) : Prop := ∀ (σ : L2.St) (H : Hp), Sl K (hide m H) σ δ → MemOk K m H → ∀ R : It → Hp → Prop,
  (∀ (J : It) (H1 : Hp) (m1 : Mem) (ds : List D), Q ds m1 → Sub (hide m H) (hide m1 H1) → MemOk K m1 H1 → Feeds K J (hide m1 H1) ds → R J H1) → wi σ H R
end
section
variable {K : PySem.W.Frag} {δ : List (Option D)} {m : Mem} {Q : D → Mem → Prop} {te ta tb tc : TE} {F : Hp} {P : Ps} {t u : TS} {tt : TT} {g : TG} {wi : TI}
theorem gw_name {i : Nat} {d : D} {Q : List (Option D) → Mem → Prop} (q : Q (δ.set i (some d)) m) : GW K (gName i) d δ m Q := fun σ H v s M r QQ k => k _ m _ H q (Sub.refl _) (s.set i r) M
theorem gs_nil {Q : List (Option D) → Mem → Prop} (q : Q δ m) : GsW K gNil [] δ m Q := fun σ H vs s M r QQ k => by
  cases r
  exact ⟨rfl, k δ m σ H q (Sub.refl _) s M⟩
theorem gs_cons {g : TG} {gs : TGs} {d : D} {ds : List D} {Q : List (Option D) → Mem → Prop} (h : GW K g d δ m fun δ1 m1 => GsW K gs ds δ1 m1 Q) : GsW K (gCons g gs) (d :: ds) δ m Q := fun σ H vs s M r QQ k => by
  cases r with
  | cons r1 r2 =>
    refine ⟨_, _, rfl, h σ H _ s M r1 _ fun δ1 m1 σ1 H1 q1 s1 S1 M1 => ?_⟩
    exact q1 σ1 H1 _ S1 M1 (r2.mono s1) _ fun δ2 m2 σ2 H2 q2 s2 S2 M2 => k δ2 m2 σ2 H2 q2 (s1.trans s2) S2 M2
theorem gw_tup {n : Nat} {gs : TGs} {ds : List D} {Q : List (Option D) → Mem → Prop} (hn : ds.length = n) (h : GsW K gs ds δ m Q) : GW K (gTup K n gs) (.tup ds) δ m Q := fun σ H v s M r QQ k => by
  obtain ⟨a, xs, rfl, e, r1⟩ := tup_at r
  exact ⟨a, xs, rfl, e, by rw [r1.length]; exact hn, h σ H xs s M r1 QQ k⟩
theorem sw_asgG (h : EW K te δ m fun d m1 => GW K g d δ m1 P.nx) : SW K (tAsg te g) δ m P := fun σ H s M E k =>
  h σ H s M _ fun d m1 v H1 q1 s1 M1 r1 => q1 σ H1 v (s.mono s1) M1 r1 _ fun δ2 m2 σ2 H2 q2 s2 S2 M2 => k.nx δ2 m2 σ2 H2 q2 (s1.trans s2) S2 M2
/-- xs[i] = d, xs a cell -/
theorem gw_setL {d : D} {Q : List (Option D) → Mem → Prop} (h : EW K ta δ m fun x m1 => EW K tb δ m1 fun y m2 => ∃ i p ds n j, x = .adr p ∧ y = .int n ∧ m2[i]? = some (p, .lst ds) ∧ ixN ds.length n = some j ∧ Q δ (m2.set i (p, .lst (ds.set j d)))) : GW K (gSub ta tb rSetL) d δ m Q := fun σ H v s M r QQ k =>
  h σ H s M _ fun x m1 vx H1 q1 s1 M1 r1 => q1 σ H1 (s.mono s1) M1 _ fun y m2 vy H2 ⟨i, p, ds, n, j, ex, ey, hm, hj, q⟩ s2 M2 r2 => by
    subst ex
    subst ey
    cases r1
    cases r2
    obtain ⟨xs, e, rx⟩ := cell_at M2 hm
    refine ⟨p, xs, n, j, rfl, rfl, e, by rw [rx.length]; exact hj, ?_⟩
    have eh : hide (m2.set i (p, .lst (ds.set j d))) (upd H2 p (.lst (xs.set j v))) = hide m2 H2 := hide_set hm
    refine k δ _ σ _ q (by rw [eh]; exact s1.trans s2) (by rw [eh]; exact s.mono (s1.trans s2)) (M2.set hm ⟨_, upd_same, ?_⟩)
    exact (rx.set (r.mono (s1.trans s2)) j)
/-! ### what is walked -/
theorem feeds_seq {a : Addr} {xs : List V} {ds : List D} {F0 : Hp} (e : F0 a = some (.lst xs)) (r : RdL K F0 xs ds) : Feeds K (Itl K a) F0 ds := by
  have l := r.length
  have at_ : ∀ (m : Mem) (H : Hp), Sub F0 (hide m H) → SqL K H a xs := fun m H s => SqL.of (hide_le _ _ (s _ _ e))
  refine ⟨fun i m H s M h => ?_, fun i m H x H' d s M h y => ?_, fun m H s M => ?_⟩
  · exact ⟨xs, xs[i]'(by omega), at_ m H s, by simp [l, h]⟩
  · obtain ⟨rfl, y⟩ := y
    obtain ⟨v, h1, h2⟩ := r.get h
    have z := y xs (at_ m H' s)
    rw [h1] at z
    cases z
    exact ⟨Sub.refl _, M, h2.mono s⟩
  · exact ⟨xs, at_ m H s, by omega⟩
theorem feeds_scr {a : Addr} {ns : List Int} {F0 : Hp} (e : SqL K F0 a (ns.map V.int)) : Feeds K (Itl K a) F0 (ns.map D.int) := by
  have at_ : ∀ (m : Mem) (H : Hp), Sub F0 (hide m H) → SqL K H a (ns.map V.int) := fun m H s => hide_le.sql (s.sql e)
  refine ⟨fun i m H s M h => ?_, fun i m H x H' d s M h y => ?_, fun m H s M => ?_⟩
  · exact ⟨_, (ns.map V.int)[i]'(by simpa using h), at_ m H s, by simp⟩
  · obtain ⟨rfl, y⟩ := y
    obtain ⟨v, h1, h2⟩ := (RdL.ints (K := K) (F := hide m H') (ns := ns)).get h
    have z := y _ (at_ m H' s)
    rw [h1] at z
    cases z
    exact ⟨Sub.refl _, M, h2⟩
  · exact ⟨_, at_ m H s, by simp⟩
theorem feeds_tup {a : Addr} {xs : List V} {ds : List D} {F0 : Hp} (e : SqT K F0 a xs) (r : RdL K F0 xs ds) : Feeds K (Itt K a) F0 ds := by
  have l := r.length
  have at_ : ∀ (m : Mem) (H : Hp), Sub F0 (hide m H) → SqT K H a xs := fun m H s => hide_le.sqt (s.sqt e)
  refine ⟨fun i m H s M h => ?_, fun i m H x H' d s M h y => ?_, fun m H s M => ?_⟩
  · exact ⟨xs, xs[i]'(by omega), at_ m H s, by simp [l, h]⟩
  · obtain ⟨rfl, y⟩ := y
    obtain ⟨v, h1, h2⟩ := r.get h
    have z := y xs (at_ m H' s)
    rw [h1] at z
    cases z
    exact ⟨Sub.refl _, M, h2.mono s⟩
  · exact ⟨xs, at_ m H s, by omega⟩
def intsD (lo : Int) (n : Nat) : List D := (List.range n).map fun i => D.int (lo + (i : Nat))
theorem intsD_len (lo : Int) (n : Nat) : (intsD lo n).length = n := by simp [intsD]
theorem intsD_get {lo : Int} {n i : Nat} {d : D} (h : (intsD lo n)[i]? = some d) : i < n ∧ d = .int (lo + (i : Nat)) := by
  unfold intsD at h
  rw [List.getElem?_map] at h
  by_cases l : i < n
  · rw [List.getElem?_range l] at h
    cases h
    exact ⟨l, rfl⟩
  · rw [List.getElem?_eq_none (by simpa using l)] at h; cases h
theorem feeds_rng {lo : Int} {n : Nat} {F0 : Hp} : Feeds K (Itr lo n) F0 (intsD lo n) := by
  refine ⟨fun i m H s M h => by rw [intsD_len] at h; exact h, fun i m H x H' d s M h y => ?_, fun m H s M => by rw [intsD_len]; exact Nat.le_refl n⟩
  obtain ⟨rfl, rfl⟩ := y
  obtain ⟨_, rfl⟩ := intsD_get h
  exact ⟨Sub.refl _, M, .int _⟩
def signsD (x : Str) : List D := x.cps.toList.map fun c => D.str ⟨#[c]⟩
theorem feeds_str {x : Str} {F0 : Hp} : Feeds K (Its x) F0 (signsD x) := by
  have l : (signsD x).length = x.cps.size := by simp [signsD]
  refine ⟨fun i m H s M h => by rw [l] at h; exact h, fun i m H v H' d s M h y => ?_, fun m H s M => by rw [l]; exact Nat.le_refl _⟩
  obtain ⟨rfl, c, hc, rfl⟩ := y
  unfold signsD at h
  rw [List.getElem?_map, Array.getElem?_toList, hc] at h
  cases h
  exact ⟨Sub.refl _, M, .str _⟩
def enumD (ds : List D) : List D := ds.zipIdx.map fun p => D.tup [.int (p.2 : Nat), p.1]
theorem feeds_enum {a : Addr} {xs : List V} {ds : List D} {F0 : Hp} (e : F0 a = some (.lst xs)) (r : RdL K F0 xs ds) : Feeds K (Ite K a) F0 (enumD ds) := by
  have l := r.length
  have l2 : (enumD ds).length = ds.length := by simp [enumD]
  have at_ : ∀ (m : Mem) (H : Hp), Sub F0 (hide m H) → SqL K H a xs := fun m H s => SqL.of (hide_le _ _ (s _ _ e))
  refine ⟨fun i m H s M h => ?_, fun i m H x H' d s M h y => ?_, fun m H s M => ?_⟩
  · rw [l2] at h
    exact ⟨xs, xs[i]'(by omega), at_ m H s, by simp [l, h]⟩
  · obtain ⟨T, v, rfl, hT, rfl, y⟩ := y
    unfold enumD at h
    rw [List.getElem?_map, List.getElem?_zipIdx] at h
    cases q : ds[i]? with
    | none => rw [q] at h; cases h
    | some z =>
      rw [q] at h
      cases h
      obtain ⟨v', h1, h2⟩ := r.get q
      have w := y xs (at_ m H s)
      rw [h1] at w
      cases w
      obtain ⟨M2, s2, r2⟩ := new_tup (ds := [D.int ((i : Nat) : Int), z]) M (.cons (.int _) (.cons (h2.mono s) .nil)) hT
      refine ⟨s2, M2, ?_⟩
      simpa using r2
  · exact ⟨xs, at_ m H s, by omega⟩
theorem iw_list {Q : List D → Mem → Prop} (h : EW K te δ m fun x m1 => ∃ ds, x = .lst ds ∧ Q ds m1) : IW K (iList K te) δ m Q := fun σ H s M R k =>
  h σ H s M _ fun x m1 v H1 ⟨ds, ex, q⟩ s1 M1 r1 => by
    subst ex
    cases r1 with
    | lst e r => exact ⟨_, rfl, ⟨_, SqL.of (hide_le _ _ e)⟩, k _ H1 m1 ds q s1 M1 (feeds_seq e r)⟩
/-- a list or a tuple or a text, whatever comes -/
def iAny (K : PySem.W.Frag) (tl : TE) : TI := fun σ H R => tl σ H fun x H1 => (∃ a, x = .ref a ∧ (∃ xs, SqL K H1 a xs) ∧ R (Itl K a) H1) ∨ (∃ a, x = .ref a ∧ (∃ xs, SqT K H1 a xs) ∧ R (Itt K a) H1)
theorem pi_any {X : Cx} {tg l : Expr} {tl : TE} (hl : PE X l tl) : PI X tg l (iAny X.K tl) := by
  constructor
  intro pins s σ H R I h
  refine thn (hl.run pins s σ H _ I h) ?_
  rintro v s1 ⟨x, H1, I1, r1, q⟩
  have nw : ∀ b, b ∈ [s1.heap.objs.size] → FpOk X pins H1 b := by
    intro b hb
    rw [List.mem_singleton.mp hb]
    exact I1.fpOk (Nat.le_refl _) (I1.hok.fresh (Nat.le_refl _))
  rcases q with ⟨a, rfl, ⟨xs, hq⟩, q⟩ | ⟨a, rfl, ⟨xs, hq⟩, q⟩
  · cases r1
    obtain ⟨its, rv, p, hz⟩ := I1.list hq
    exact wpAny_pyIter_list p.isList ⟨s1.heap.objs.size, [s1.heap.objs.size], _, _, H1, rfl, I1.kept (t' := s1.toks) fun b o e => Heap.get?_push_of_some _ e, turn_list a _, ⟨_, Heap.get?_push_size _ rfl, rfl, rfl⟩, nw, q⟩
  · cases r1
    obtain ⟨its, rv, p, hz⟩ := I1.tuple hq
    exact wpAny_pyIter_tuple p ⟨s1.heap.objs.size, [s1.heap.objs.size], _, _, H1, rfl, I1.kept (t' := s1.toks) fun b o e => Heap.get?_push_of_some _ e, turn_tuple a _, ⟨_, Heap.get?_push_size _ rfl, rfl, rfl⟩, nw, q⟩
theorem iw_any {Q : List D → Mem → Prop} (h : EW K te δ m fun x m1 => ∃ ds, (x = .lst ds ∨ x = .tup ds) ∧ Q ds m1) : IW K (iAny K te) δ m Q := fun σ H s M R k =>
  h σ H s M _ fun x m1 v H1 ⟨ds, ex, q⟩ s1 M1 r1 => by
    rcases ex with rfl | rfl
    · cases r1 with
      | lst e r => exact .inl ⟨_, rfl, ⟨_, SqL.of (hide_le _ _ e)⟩, k _ H1 m1 ds q s1 M1 (feeds_seq e r)⟩
    · cases r1 with
      | tup e r => exact .inr ⟨_, rfl, ⟨_, hide_le.sqt e⟩, k _ H1 m1 ds q s1 M1 (feeds_tup e r)⟩
theorem iw_scr {Q : List D → Mem → Prop} (h : EW K te δ m fun x m1 => ∃ ns, x = .scr ns ∧ Q (ns.map D.int) m1) : IW K (iAny K te) δ m Q := fun σ H s M R k =>
  h σ H s M _ fun x m1 v H1 ⟨ns, ex, q⟩ s1 M1 r1 => by
    subst ex
    cases r1 with
    | scr e => exact .inl ⟨_, rfl, ⟨_, hide_le.sql e⟩, k _ H1 m1 _ q s1 M1 (feeds_scr e)⟩
theorem iw_str {Q : List D → Mem → Prop} (h : EW K te δ m fun x m1 => ∃ z, x = .str z ∧ Q (signsD z) m1) : IW K (iStr te) δ m Q := fun σ H s M R k =>
  h σ H s M _ fun x m1 v H1 ⟨z, ex, q⟩ s1 M1 r1 => by
    subst ex
    cases r1
    exact ⟨z, rfl, k _ H1 m1 _ q s1 M1 feeds_str⟩
theorem iw_rng1 {t : TA} {Q : List D → Mem → Prop} (h : AW K t δ m fun xs m1 => ∃ j : Int, xs = [.int j] ∧ -(2 ^ 62) ≤ j ∧ j < 2 ^ 62 ∧ Q (intsD 0 j.toNat) m1) : IW K (iRng1 t) δ m Q := fun σ H s M R k =>
  h σ H s M _ fun x m1 v H1 ⟨j, ex, a, b, q⟩ s1 M1 r1 => by
    subst ex
    cases r1 with
    | cons r1 r2 =>
      cases r2
      cases r1
      exact ⟨j, rfl, a, b, k _ H1 m1 _ q s1 M1 feeds_rng⟩
theorem iw_rng2 {t : TA} {Q : List D → Mem → Prop} (h : AW K t δ m fun xs m1 => ∃ i j : Int, xs = [.int i, .int j] ∧ (-(2 ^ 62) ≤ i ∧ i < 2 ^ 62 ∧ -(2 ^ 62) ≤ j ∧ j < 2 ^ 62) ∧ Q (intsD i (j - i).toNat) m1) : IW K (iRng2 t) δ m Q := fun σ H s M R k =>
  h σ H s M _ fun x m1 v H1 ⟨i, j, ex, a, q⟩ s1 M1 r1 => by
    subst ex
    cases r1 with
    | cons r1 r2 =>
      cases r2 with
      | cons r2 r3 =>
        cases r3
        cases r1
        cases r2
        exact ⟨i, j, rfl, a, k _ H1 m1 _ q s1 M1 feeds_rng⟩
theorem iw_enum {t : TA} {Q : List D → Mem → Prop} (h : AW K t δ m fun xs m1 => ∃ ds, xs = [.lst ds] ∧ Q (enumD ds) m1) : IW K (iEnum K t) δ m Q := fun σ H s M R k =>
  h σ H s M _ fun x m1 v H1 ⟨ds, ex, q⟩ s1 M1 r1 => by
    subst ex
    cases r1 with
    | cons r1 r2 =>
      cases r2
      cases r1 with
      | lst e r => exact ⟨_, _, rfl, SqL.of (hide_le _ _ e), k _ H1 m1 _ q s1 M1 (feeds_enum e r)⟩
/-! ### loops -/
theorem sw_for (h : IW K wi δ m fun ds m1 => ∃ Iv : Nat → List (Option D) → Mem → Prop, Iv 0 δ m1 ∧
      (∀ (j : Nat) (d : D) (δ' : List (Option D)) (m' : Mem), ds[j]? = some d → Iv j δ' m' → GW K g d δ' m' fun δ2 m2 => SW K t δ2 m2 { nx := Iv (j + 1), ct := Iv (j + 1), bk := P.nx, rt := P.rt }) ∧
      (∀ (δ' : List (Option D)) (m' : Mem), Iv ds.length δ' m' → P.nx δ' m')) : SW K (tFor wi g t) δ m P := fun σ H s M E k =>
  h σ H s M _ fun J H1 m1 ds ⟨Iv, h0, hs, hd⟩ s1 M1 fe => by
    refine ⟨fun i n σ' H' => n = ds.length - i ∧ i ≤ ds.length ∧ ∃ δ' m', Iv i δ' m' ∧ Sub (hide m1 H1) (hide m' H') ∧ Sl K (hide m' H') σ' δ' ∧ MemOk K m' H', ⟨ds.length, rfl, Nat.zero_le _, δ, m1, h0, Sub.refl _, s.mono s1, M1⟩, ?_⟩
    rintro i n σ' H' ⟨rfl, hi, δ', m', hI, s2, S2, M2⟩
    by_cases hlt : i < ds.length
    · refine .inr ⟨fe.go i m' H' s2 M2 hlt, fun σ3 H3 => ∃ δ3 m3, Iv (i + 1) δ3 m3 ∧ Sub (hide m1 H1) (hide m3 H3) ∧ Sl K (hide m3 H3) σ3 δ3 ∧ MemOk K m3 H3, fun σ3 H3 q => ⟨ds.length - (i + 1), by omega, rfl, hlt, q⟩, fun x H3 y => ?_⟩
      have hdi : ds[i]? = some ds[i] := List.getElem?_eq_getElem hlt
      obtain ⟨s3, M3, r3⟩ := fe.yld i m' H' x H3 _ s2 M2 hdi y
      refine hs i _ δ' m' hdi hI σ' H3 x (S2.mono s3) M3 r3 _ fun δ4 m4 σ4 H4 q4 s4 S4 M4 => ?_
      have s34 : Sub (hide m1 H1) (hide m4 H4) := s2.trans (s3.trans s4)
      refine q4 σ4 H4 S4 M4 _ ⟨?_, ?_, ?_, ?_⟩
      · exact fun δ5 m5 σ5 H5 q5 s5 S5 M5 => ⟨δ5, m5, q5, s34.trans s5, S5, M5⟩
      · exact fun d m5 v H5 q5 s5 M5 r5 => k.rt d m5 v H5 q5 (s1.trans (s34.trans s5)) M5 r5
      · exact fun δ5 m5 σ5 H5 q5 s5 S5 M5 => k.nx δ5 m5 σ5 H5 q5 (s1.trans (s34.trans s5)) S5 M5
      · exact fun δ5 m5 σ5 H5 q5 s5 S5 M5 => ⟨δ5, m5, q5, s34.trans s5, S5, M5⟩
    · have e : i = ds.length := by omega
      subst e
      exact .inl ⟨fe.stop m' H' s2 M2, k.nx δ' m' σ' H' (hd δ' m' hI) (s1.trans s2) S2 M2⟩
theorem sw_while (Iv : Nat → List (Option D) → Mem → Prop) (n0 : Nat) (h0 : Iv n0 δ m)
    (hs : ∀ (n : Nat) (δ' : List (Option D)) (m' : Mem), Iv n δ' m' → TW K tt δ' m' fun b m1 => if b = true then SW K t δ' m1 { nx := fun δ2 m2 => ∃ n', n' < n ∧ Iv n' δ2 m2, ct := fun δ2 m2 => ∃ n', n' < n ∧ Iv n' δ2 m2, bk := P.nx, rt := P.rt } else P.nx δ' m1) : SW K (tWhile tt t) δ m P := fun σ H s M E k => by
  refine ⟨fun n σ' H' => ∃ δ' m', Iv n δ' m' ∧ Sub (hide m H) (hide m' H') ∧ Sl K (hide m' H') σ' δ' ∧ MemOk K m' H', ⟨n0, δ, m, h0, Sub.refl _, s, M⟩, ?_⟩
  rintro n σ' H' ⟨δ', m', hI, s2, S2, M2⟩
  refine hs n δ' m' hI σ' H' S2 M2 _ fun b m1 H1 q1 s1 M1 => ?_
  cases b with
  | true =>
    refine ⟨fun σ3 H3 => ∃ n', n' < n ∧ ∃ δ3 m3, Iv n' δ3 m3 ∧ Sub (hide m H) (hide m3 H3) ∧ Sl K (hide m3 H3) σ3 δ3 ∧ MemOk K m3 H3, fun σ3 H3 ⟨n', l, q⟩ => ⟨n', l, q⟩, ?_⟩
    have q1' : SW K t δ' m1 { nx := fun δ2 m2 => ∃ n', n' < n ∧ Iv n' δ2 m2, ct := fun δ2 m2 => ∃ n', n' < n ∧ Iv n' δ2 m2, bk := P.nx, rt := P.rt } := q1
    have s12 := s2.trans s1
    refine q1' σ' H1 (S2.mono s1) M1 _ ⟨?_, ?_, ?_, ?_⟩
    · exact fun δ5 m5 σ5 H5 ⟨n', l, q5⟩ s5 S5 M5 => ⟨n', l, δ5, m5, q5, s12.trans s5, S5, M5⟩
    · exact fun d m5 v H5 q5 s5 M5 r5 => k.rt d m5 v H5 q5 (s12.trans s5) M5 r5
    · exact fun δ5 m5 σ5 H5 q5 s5 S5 M5 => k.nx δ5 m5 σ5 H5 q5 (s12.trans s5) S5 M5
    · exact fun δ5 m5 σ5 H5 ⟨n', l, q5⟩ s5 S5 M5 => ⟨n', l, δ5, m5, q5, s12.trans s5, S5, M5⟩
  | false =>
    have q1' : P.nx δ' m1 := q1
    exact k.nx δ' m1 σ' H1 q1' (s2.trans s1) (S2.mono s1) M1
/-! ### comprehensions -/
theorem wipe_set {σ : L2.St} {o : Option V} : ∀ {vs : List Nat} {j : Nat}, j ∈ vs → wipe (σ.set j o) vs = wipe σ vs
  | v :: vs, j, h => by
    unfold L2.wipe
    rcases List.mem_cons.mp h with e | e
    · subst e
      have gen : ∀ (ws : List Nat), (wipe (σ.set j o) ws).set j none = (wipe σ ws).set j none := by
        intro ws
        induction ws with
        | nil => unfold L2.wipe; rw [List.set_set]
        | cons a ws ih =>
          unfold L2.wipe
          by_cases q : a = j
          · subst q
            rw [List.set_set, List.set_set]
            exact ih
          · rw [List.set_comm _ _ q, List.set_comm _ _ q, ih]
      exact gen vs
    · rw [wipe_set e]
theorem wipe_wipe_set {σ : L2.St} {vs : List Nat} {j : Nat} {o : Option V} (h : j ∈ vs) : wipe ((wipe σ vs).set j o) vs = wipe (wipe σ vs) vs := wipe_set h
theorem wipe_idem (σ : L2.St) : ∀ vs : List Nat, wipe (wipe σ vs) vs = wipe σ vs := by
  have swap : ∀ (vs : List Nat) (τ : L2.St) (v : Nat), wipe (τ.set v none) vs = (wipe τ vs).set v none := by
    intro vs
    induction vs with
    | nil => intro τ v; rfl
    | cons a vs ih =>
      intro τ v
      unfold L2.wipe
      rw [ih]
      by_cases q : a = v
      · subst q; rfl
      · exact List.set_comm _ _ (fun z => q z.symm)
  intro vs
  induction vs with
  | nil => rfl
  | cons a vs ih =>
    show (wipe ((wipe σ vs).set a none) vs).set a none = (wipe σ vs).set a none
    rw [swap, List.set_set, ih]
/-- a target that stores the comprehension's own names alone -/
def Tame (g : TG) (vs : List Nat) : Prop := ∀ (v : V) (σ τ : L2.St) (H : Hp) (QQ : L2.St → Hp → Prop), wipe τ vs = wipe σ vs → g v τ H QQ → g v τ H fun σ2 H2 => wipe σ2 vs = wipe σ vs ∧ QQ σ2 H2
theorem tame_name {vs : List Nat} {j : Nat} (h : j ∈ vs) : Tame (gName j) vs := fun v σ τ H QQ e q => ⟨(wipe_set h).trans e, q⟩
theorem tame_tup {vs : List Nat} {n : Nat} {gs : TGs} (h : ∀ (ws : List V) (σ τ : L2.St) (H : Hp) (QQ : L2.St → Hp → Prop), wipe τ vs = wipe σ vs → gs ws τ H QQ → gs ws τ H fun σ2 H2 => wipe σ2 vs = wipe σ vs ∧ QQ σ2 H2) : Tame (gTup K n gs) vs := fun v σ τ H QQ e ⟨a, xs, e1, e2, e3, q⟩ => ⟨a, xs, e1, e2, e3, h xs σ τ H QQ e q⟩
theorem tames_nil {vs : List Nat} : ∀ (ws : List V) (σ τ : L2.St) (H : Hp) (QQ : L2.St → Hp → Prop), wipe τ vs = wipe σ vs → gNil ws τ H QQ → gNil ws τ H fun σ2 H2 => wipe σ2 vs = wipe σ vs ∧ QQ σ2 H2 := fun ws σ τ H QQ e ⟨a, q⟩ => ⟨a, e, q⟩
theorem tames_cons {vs : List Nat} {j : Nat} {gs : TGs} (hj : j ∈ vs) (h : ∀ (ws : List V) (σ τ : L2.St) (H : Hp) (QQ : L2.St → Hp → Prop), wipe τ vs = wipe σ vs → gs ws τ H QQ → gs ws τ H fun σ2 H2 => wipe σ2 vs = wipe σ vs ∧ QQ σ2 H2) :
    ∀ (ws : List V) (σ τ : L2.St) (H : Hp) (QQ : L2.St → Hp → Prop), wipe τ vs = wipe σ vs → gCons (gName j) gs ws τ H QQ → gCons (gName j) gs ws τ H fun σ2 H2 => wipe σ2 vs = wipe σ vs ∧ QQ σ2 H2 := fun ws σ τ H QQ e ⟨v, r, e1, q⟩ => ⟨v, r, e1, h r σ _ H QQ ((wipe_set hj).trans e) q⟩
/-- a list comprehension: Iv i acc m, behind i items; acc is what is made so far, m the cells besides -/
theorem ew_lc {vs : List Nat} (tm : Tame g vs) (h : IW K wi δ m fun ds m1 => ∃ Iv : Nat → List D → Mem → Prop, Iv 0 [] m1 ∧
      (∀ (j : Nat) (d : D) (acc : List D) (m' : Mem) (z : Addr), ds[j]? = some d → Iv j acc m' → acc.length < sizeLine ∧ GW K g d (wipeD δ vs) (m' ++ [(z, .lst acc)]) fun δ2 m2 => TW K tt δ2 m2 fun b m3 =>
        if b = true then EW K te δ2 m3 fun y m4 => ∃ m5, m4 = m5 ++ [(z, .lst acc)] ∧ Iv (j + 1) (acc ++ [y]) m5 else ∃ m5, m3 = m5 ++ [(z, .lst acc)] ∧ Iv (j + 1) acc m5) ∧
      (∀ (acc : List D) (m' : Mem), Iv ds.length acc m' → Q (.lst acc) m')) : EW K (tLc wi g tt te vs) δ m Q := fun σ H s M QQ k =>
  h σ H s M _ fun J H1 m1 ds ⟨Iv, h0, hs, hd⟩ s1 M1 fe => by
    intro z hz
    have base : Sub (hide m1 H1) (hide (m1 ++ [(z, .lst [])]) (upd H1 z (.lst []))) := by
      rw [hide_cell hz]
      exact Sub.refl _
    refine ⟨fun i n H' => n = ds.length - i ∧ i ≤ ds.length ∧ ∃ acc m', Iv i acc m' ∧ Sub (hide m1 H1) (hide (m' ++ [(z, .lst acc)]) H') ∧ MemOk K (m' ++ [(z, .lst acc)]) H', ⟨ds.length, rfl, Nat.zero_le _, [], m1, h0, base, M1.cell (c := .lst []) hz ⟨[], upd_same, .nil⟩⟩, ?_⟩
    rintro i n H' ⟨rfl, hi, acc, m', hI, s2, M2⟩
    by_cases hlt : i < ds.length
    · refine .inr ⟨fe.go i _ H' s2 M2 hlt, fun H3 => ∃ acc m3, Iv (i + 1) acc m3 ∧ Sub (hide m1 H1) (hide (m3 ++ [(z, .lst acc)]) H3) ∧ MemOk K (m3 ++ [(z, .lst acc)]) H3, fun H3 q => ⟨ds.length - (i + 1), by omega, rfl, hlt, q⟩, fun x H3 y => ?_⟩
      have hdi : ds[i]? = some ds[i] := List.getElem?_eq_getElem hlt
      obtain ⟨s3, M3, r3⟩ := fe.yld i _ H' x H3 _ s2 M2 hdi y
      obtain ⟨hl, step⟩ := hs i _ acc m' z hdi hI
      have sb : Sub (hide m H) (hide (m' ++ [(z, .lst acc)]) H3) := s1.trans (s2.trans s3)
      refine tm x σ (wipe σ vs) H3 _ (wipe_idem σ vs) ?_
      refine step (wipe σ vs) H3 x ((s.mono sb).wipe vs) M3 r3 _ fun δ4 m4 σ4 H4 q4 s4 S4 M4 => ?_
      refine q4 σ4 H4 S4 M4 _ fun b m5 H5 q5 s5 M5 => ?_
      cases b with
      | true =>
        have q5' : EW K te δ4 m5 fun y m4 => ∃ m5, m4 = m5 ++ [(z, .lst acc)] ∧ Iv (i + 1) (acc ++ [y]) m5 := q5
        refine q5' σ4 H5 (S4.mono s5) M5 _ fun yd m6 yv H6 q6 s6 M6 r6 => ?_
        obtain ⟨m7, e7, hI7⟩ := q6
        subst e7
        have hm : (m7 ++ [(z, Cell.lst acc)])[m7.length]? = some (z, Cell.lst acc) := by simp
        obtain ⟨xs, ex, rx⟩ := cell_at M6 hm
        have es : (m7 ++ [(z, Cell.lst acc)]).set m7.length (z, Cell.lst (acc ++ [yd])) = m7 ++ [(z, Cell.lst (acc ++ [yd]))] := by
          rw [List.set_append_right _ _ (Nat.le_refl _), Nat.sub_self]
          rfl
        have eh : hide (m7 ++ [(z, Cell.lst (acc ++ [yd]))]) (upd H6 z (.lst (xs ++ [yv]))) = hide (m7 ++ [(z, Cell.lst acc)]) H6 := by
          rw [← es]
          exact hide_set hm
        refine ⟨xs, ex, by rw [rx.length]; exact hl, acc ++ [yd], m7, hI7, ?_, ?_⟩
        · rw [eh]
          exact s2.trans (s3.trans (s4.trans (s5.trans s6)))
        · rw [← es]
          exact M6.set hm ⟨xs ++ [yv], upd_same, rx.snoc r6⟩
      | false =>
        have q5' : ∃ m6, m5 = m6 ++ [(z, .lst acc)] ∧ Iv (i + 1) acc m6 := q5
        obtain ⟨m7, e7, hI7⟩ := q5'
        subst e7
        exact ⟨acc, m7, hI7, s2.trans (s3.trans (s4.trans s5)), M5⟩
    · have e : i = ds.length := by omega
      subst e
      refine .inl ⟨fe.stop _ H' s2 M2, ?_⟩
      -- the finished list stands still
      have hm : (m' ++ [(z, Cell.lst acc)])[m'.length]? = some (z, Cell.lst acc) := by simp
      obtain ⟨xs, ex, rx⟩ := cell_at M2 hm
      have nd := M2.nd
      rw [List.map_append] at nd
      have nz : z ∉ m'.map Prod.fst := fun q => by
        have := (List.nodup_append.mp nd).2.2 z q z (by simp)
        exact this rfl
      have sb : Sub (hide (m' ++ [(z, Cell.lst acc)]) H') (hide m' H') := fun a o ea => by
        by_cases q : a ∈ (m' ++ [(z, Cell.lst acc)]).map Prod.fst
        · rw [hide_in q] at ea; cases ea
        · rw [hide_out q] at ea
          rw [hide_out (fun w => q (by rw [List.map_append]; exact List.mem_append_left _ w))]
          exact ea
      have M3 : MemOk K m' H' := ⟨(List.nodup_append.mp nd).1, fun p c hc => (M2.at_ p c (List.mem_append_left _ hc)).mono sb rfl⟩
      refine k (.lst acc) m' (.ref z) H' (hd acc m' hI) (s1.trans (s2.trans sb)) M3 (.lst ?_ (rx.mono sb))
      rw [hide_out nz]
      exact ex
end
end DL

set_option Elab.async false
set_option linter.all false
set_option maxRecDepth 100000
set_option maxHeartbeats 1000000
set_option autoImplicit false
namespace DL
open PySem PySem.Spec PyProof.Rows L2
section
variable {K : PySem.W.Frag} {δ : List (Option D)} {m : Mem} {Q : D → Mem → Prop} {te ta tb tc : TE} {F : Hp} {P : Ps} {t u : TS} {tt : TT} {g : TG} {wi : TI}
/-! ### a cell set still -/
theorem MemOk.drop {H : Hp} {p : Addr} {c : Cell} (M : MemOk K (m ++ [(p, c)]) H) : MemOk K m H ∧ Sub (hide (m ++ [(p, c)]) H) (hide m H) ∧ hide m H p = H p := by
  have nd := M.nd
  rw [List.map_append] at nd
  have nz : p ∉ m.map Prod.fst := fun q => (List.nodup_append.mp nd).2.2 p q p (by simp) rfl
  have sb : Sub (hide (m ++ [(p, c)]) H) (hide m H) := fun a o ea => by
    by_cases q : a ∈ (m ++ [(p, c)]).map Prod.fst
    · rw [hide_in q] at ea; cases ea
    · rw [hide_out q] at ea
      rw [hide_out (fun w => q (by rw [List.map_append]; exact List.mem_append_left _ w))]
      exact ea
  exact ⟨⟨(List.nodup_append.mp nd).1, fun q d hc => (M.at_ q d (List.mem_append_left _ hc)).mono sb rfl⟩, sb, hide_out nz⟩
/-- the data that a cell holds -/
def Cell.d : Cell → Option D
  | .lst ds => some (.lst ds)
  | .dic ds => some (.dic ds)
  | .ins C fs => some (.ins C fs)
  | .xd _ => none
  | .obj _ => none
  | .tbl _ => none
theorem still_of {H : Hp} {p : Addr} {c : Cell} {d : D} {F : Hp} (h : CellAt K F H p c) (e : c.d = some d) {G : Hp} (s : Sub F G) (k : G p = H p) : Rd K G (.ref p) d := by
  cases c with
  | lst ds => cases e; obtain ⟨xs, q, r⟩ := h; exact .lst (k.trans q) (r.mono s)
  | dic ds => cases e; obtain ⟨xs, q, n, r⟩ := h; exact .dic (k.trans q) n (r.mono s)
  | ins C ds => cases e; obtain ⟨dx, xs, q, n, r⟩ := h; exact .ins (k.trans q) n (r.mono s)
  | xd ds => cases e
  | obj o => cases e
  | tbl q => cases e
/-- the last cell is given up: what it holds is data from now on -/
theorem ew_still (h : EW K te δ m fun x m1 => ∃ p c d m2, x = .adr p ∧ m1 = m2 ++ [(p, c)] ∧ c.d = some d ∧ Q d m2) : EW K te δ m Q := fun σ H s M QQ k =>
  h σ H s M _ fun x m1 v H1 ⟨p, c, d, m2, e1, e2, ec, q⟩ s1 M1 r1 => by
    subst e1
    subst e2
    cases r1
    obtain ⟨M2, sb, hp⟩ := M1.drop
    exact k d m2 _ H1 q (s1.trans sb) M2 (still_of (M1.at_ p c (by simp)) ec sb hp)
/-! ### more statements -/
theorem sw_par {i j : Nat} {t : TA} (h : AW K t δ m fun xs m1 => ∃ x y, xs = [x, y] ∧ P.nx ((δ.set i (some x)).set j (some y)) m1) : SW K (tPar i j t) δ m P := fun σ H s M E k =>
  h σ H s M _ fun xs m1 vs H1 ⟨x, y, e, q⟩ s1 M1 r1 => by
    subst e
    cases r1 with
    | cons r1 r2 =>
      cases r2 with
      | cons r2 r3 =>
        cases r3
        exact ⟨_, _, rfl, k.nx _ m1 _ H1 q s1 (((s.mono s1).set i r1).set j r2) M1⟩
theorem sw_par3 {i j l : Nat} {t : TA} (h : AW K t δ m fun xs m1 => ∃ x y z, xs = [x, y, z] ∧ P.nx (((δ.set i (some x)).set j (some y)).set l (some z)) m1) : SW K (tPar3 i j l t) δ m P := fun σ H s M E k =>
  h σ H s M _ fun xs m1 vs H1 ⟨x, y, z, e, q⟩ s1 M1 r1 => by
    subst e
    cases r1 with
    | cons r1 r2 =>
      cases r2 with
      | cons r2 r3 =>
        cases r3 with
        | cons r3 r4 =>
          cases r4
          exact ⟨_, _, _, rfl, k.nx _ m1 _ H1 q s1 ((((s.mono s1).set i r1).set j r2).set l r3) M1⟩
theorem sw_aug {i : Nat} {f : Int → Int → Int} {a : Int} (hx : δ[i]? = some (some (.int a))) (h : EW K te δ m fun y m1 => ∃ b, y = .int b ∧ P.nx (δ.set i (some (.int (f a b)))) m1) : SW K (tAug i te (ipI f)) δ m P := fun σ H s M E k => by
  obtain ⟨v, e, r⟩ := s.at_ i _ hx
  cases r
  refine ⟨_, e, h σ H s M _ fun y m1 w H1 ⟨b, eb, q⟩ s1 M1 r1 => ?_⟩
  subst eb
  cases r1
  exact ⟨a, b, rfl, rfl, k.nx _ m1 _ H1 q s1 ((s.mono s1).set i (.int _)) M1⟩
/-! ### methods of lists that are cells -/
theorem ew_bm {T : String} {r : V → List V → Hp → VK → Prop} {ta : TE} {t : TA} (h : EW K ta δ m fun x m1 => (∀ (H : Hp) (v : V), MemOk K m1 H → Rd K (hide m1 H) v x → tyV K T v H) ∧ AW K t δ m1 fun xs m2 => MW K r x xs m2 Q) : EW K (tBM K T r ta t) δ m Q := fun σ H s M QQ k =>
  h σ H s M _ fun x m1 v1 H1 ⟨ty, q1⟩ s1 M1 r1 => ⟨ty H1 v1 M1 r1, q1 σ H1 (s.mono s1) M1 _ fun ds m2 vs H2 q2 s2 M2 r2 => q2 H2 v1 vs M2 (r1.mono s2) r2 _ fun d m3 w H3 q3 s3 M3 r3 => k d m3 w H3 q3 (s1.trans (s2.trans s3)) M3 r3⟩
theorem ew_bm0 {T : String} {r : V → List V → Hp → VK → Prop} {ta : TE} (h : EW K ta δ m fun x m1 => (∀ (H : Hp) (v : V), MemOk K m1 H → Rd K (hide m1 H) v x → tyV K T v H) ∧ MW K r x [] m1 Q) : EW K (tBM0 K T r ta) δ m Q := fun σ H s M QQ k =>
  h σ H s M _ fun x m1 v1 H1 ⟨ty, q1⟩ s1 M1 r1 => ⟨ty H1 v1 M1 r1, q1 H1 v1 [] M1 r1 .nil _ fun d m3 w H3 q3 s3 M3 r3 => k d m3 w H3 q3 (s1.trans s3) M3 r3⟩
theorem ty_M {i : Nat} {p : Addr} {ds : List D} (hm : m[i]? = some (p, .lst ds)) : ∀ (H : Hp) (v : V), MemOk K m H → Rd K (hide m H) v (.adr p) → tyV K "list" v H := fun H v M r => by
  cases r
  obtain ⟨xs, e, _⟩ := cell_at M hm
  exact .inl ⟨rfl, xs, SqL.of e⟩
theorem ty_L {ds : List D} : ∀ (H : Hp) (v : V), MemOk K m H → Rd K (hide m H) v (.lst ds) → tyV K "list" v H := fun H v M r => by
  obtain ⟨p, xs, rfl, e, _⟩ := lst_at r
  exact .inl ⟨rfl, xs, SqL.of e⟩
theorem ty_S {x : Str} : ∀ (H : Hp) (v : V), MemOk K m H → Rd K (hide m H) v (.str x) → tyV K "str" v H := fun H v M r => by
  cases r
  rfl
theorem set_cell {H : Hp} {i : Nat} {p : Addr} {c c' : Cell} {o : HO} (M : MemOk K m H) (hm : m[i]? = some (p, c)) (hc : CellAt K (hide m H) (upd H p o) p c') : MemOk K (m.set i (p, c')) (upd H p o) ∧ Sub (hide m H) (hide (m.set i (p, c')) (upd H p o)) := by
  refine ⟨M.set hm hc, ?_⟩
  rw [hide_set hm]
  exact Sub.refl _
theorem mw_append {i : Nat} {p : Addr} {ds : List D} {d : D} (hm : m[i]? = some (p, .lst ds)) (hl : ds.length < sizeLine) (q : Q .non (m.set i (p, .lst (ds ++ [d])))) : MW K rAppend (.adr p) [d] m Q := fun H v vs M a b QQ k => by
  cases a
  cases b with
  | cons b n =>
    cases n
    obtain ⟨xs, e, r⟩ := cell_at M hm
    obtain ⟨M2, s2⟩ := set_cell (c' := .lst (ds ++ [d])) (o := .lst (xs ++ [_])) M hm ⟨_, upd_same, r.snoc b⟩
    exact ⟨p, xs, _, rfl, rfl, e, by rw [r.length]; exact hl, k .non _ .non _ q s2 M2 .non⟩
theorem mw_reverse {i : Nat} {p : Addr} {ds : List D} (hm : m[i]? = some (p, .lst ds)) (q : Q .non (m.set i (p, .lst ds.reverse))) : MW K rReverse (.adr p) [] m Q := fun H v vs M a b QQ k => by
  cases a
  cases b
  obtain ⟨xs, e, r⟩ := cell_at M hm
  obtain ⟨M2, s2⟩ := set_cell (c' := .lst ds.reverse) (o := .lst xs.reverse) M hm ⟨_, upd_same, r.reverse⟩
  exact ⟨p, xs, rfl, rfl, e, k .non _ .non _ q s2 M2 .non⟩
theorem mw_clear {i : Nat} {p : Addr} {ds : List D} (hm : m[i]? = some (p, .lst ds)) (q : Q .non (m.set i (p, .lst []))) : MW K rClear (.adr p) [] m Q := fun H v vs M a b QQ k => by
  cases a
  cases b
  obtain ⟨xs, e, r⟩ := cell_at M hm
  obtain ⟨M2, s2⟩ := set_cell (c' := .lst []) (o := .lst []) M hm ⟨_, upd_same, .nil⟩
  exact ⟨p, xs, rfl, rfl, e, k .non _ .non _ q s2 M2 .non⟩
/-- xs.index(y), plain data -/
theorem dp_list {H : Hp} {p : Addr} {xs : List V} {ds : List D} {n : Nat} (e : H p = some (.lst xs)) (r : RdL K H xs ds) (h : ds.all (D.fl n) = true) : Dp K H (.ref p) (.list (D.pyL ds)) := by
  have : Dp K H (.ref p) (D.lst ds).py := Rd.dp (n + 1) (.lst ds) _ h (.lst e r)
  simpa only [D.py] using this
theorem RdL.top {H : Hp} {v : List V} {d : List D} (r : RdL K (hide m H) v d) : RdL K H v d := r.mono hide_le
theorem mw_index_at {H : Hp} {p : Addr} {xs : List V} {ds : List D} {d : D} {n j : Nat} {w : V} {QQ : VK} (M : MemOk K m H) (e : H p = some (.lst xs)) (r : RdL K (hide m H) xs ds) (b : Rd K (hide m H) w d) (hn : n ≤ 63) (hf : ds.all (D.fl n) = true) (hd : d.fl n = true)
    (hj : ∃ z, ds[j]? = some z ∧ PyData.eqv z.py d.py = true) (hno : ∀ (i : Nat) (z : D), i < j → ds[i]? = some z → PyData.eqv z.py d.py = false) (q : QQ (.int (j : Nat)) H) : rIndexD K (.ref p) [w] H QQ := by
  obtain ⟨z, hz, he⟩ := hj
  refine ⟨p, w, d.py, D.pyL ds, j, z.py, rfl, rfl, dp_list e r.top hf, Rd.dp n d w hd b.top, ?_, fl_ok hd (by omega), ?_, he, fun i z' hi hz' => ?_, q⟩
  · have : SeqAt.shaped (D.lst ds).py = true := fl_ok (n := n + 1) (d := .lst ds) hf (by omega)
    simpa only [D.py] using this
  · rw [pyL_map, List.getElem?_map, hz]
    rfl
  · rw [pyL_map, List.getElem?_map] at hz'
    cases c : ds[i]? with
    | none => rw [c] at hz'; cases hz'
    | some y =>
      rw [c] at hz'
      cases hz'
      exact hno i y hi c
theorem mw_indexL {ds : List D} {d : D} {n j : Nat} (hn : n ≤ 63) (hf : ds.all (D.fl n) = true) (hd : d.fl n = true) (hj : ∃ z, ds[j]? = some z ∧ PyData.eqv z.py d.py = true) (hno : ∀ (i : Nat) (z : D), i < j → ds[i]? = some z → PyData.eqv z.py d.py = false) (q : Q (.int (j : Nat)) m) :
    MW K (rIndexD K) (.lst ds) [d] m Q := fun H v vs M a b QQ k => by
  cases b with
  | cons b w =>
    cases w
    obtain ⟨p, xs, rfl, e, r⟩ := lst_at a
    exact mw_index_at M e r b hn hf hd hj hno (k _ m _ H q (Sub.refl _) M (.int _))
theorem mw_indexM {i : Nat} {p : Addr} {ds : List D} {d : D} {n j : Nat} (hm : m[i]? = some (p, .lst ds)) (hn : n ≤ 63) (hf : ds.all (D.fl n) = true) (hd : d.fl n = true) (hj : ∃ z, ds[j]? = some z ∧ PyData.eqv z.py d.py = true) (hno : ∀ (i : Nat) (z : D), i < j → ds[i]? = some z → PyData.eqv z.py d.py = false) (q : Q (.int (j : Nat)) m) :
    MW K (rIndexD K) (.adr p) [d] m Q := fun H v vs M a b QQ k => by
  cases a
  cases b with
  | cons b w =>
    cases w
    obtain ⟨xs, e, r⟩ := cell_at M hm
    exact mw_index_at M e r b hn hf hd hj hno (k _ m _ H q (Sub.refl _) M (.int _))
/-! ### in: lists, tuples of plain data; dicts; sets; a sign in a text -/
def D.flat : D → Bool
  | .non => true
  | .bl _ => true
  | .int _ => true
  | .str _ => true
  | _ => false
def D.eqf : D → D → Bool
  | .non, .non => true
  | .bl a, .bl b => a == b
  | .bl a, .int b => (if a then 1 else 0) == b
  | .int a, .bl b => a == (if b then 1 else 0)
  | .int a, .int b => a == b
  | .str a, .str b => a == b
  | _, _ => false
theorem flat_v {F : Hp} {v : V} {d : D} (r : Rd K F v d) (h : d.flat = true) : flatV v = true := by cases r <;> simp_all [D.flat, flatV]
theorem eqf_v {F : Hp} {v w : V} {d e : D} (r : Rd K F v d) (s : Rd K F w e) (h : d.flat = true) (h' : e.flat = true) : eqV v w = d.eqf e := by
  cases r <;> cases s <;> simp_all [D.flat, eqV, D.eqf]
theorem flats_v {F : Hp} : ∀ {vs : List V} {ds : List D}, RdL K F vs ds → ds.all D.flat = true → vs.all flatV = true
  | _, _, .nil, _ => rfl
  | _, _, .cons r s, h => by
    rw [List.all_cons, Bool.and_eq_true] at h
    rw [List.all_cons, flat_v r h.1, flats_v s h.2]
    rfl
theorem any_v {F : Hp} {w : V} {e : D} (s : Rd K F w e) (h' : e.flat = true) : ∀ {vs : List V} {ds : List D}, RdL K F vs ds → ds.all D.flat = true → (vs.any fun y => eqV y w) = ds.any fun y => y.eqf e
  | _, _, .nil, _ => rfl
  | _, _, .cons r t, h => by
    rw [List.all_cons, Bool.and_eq_true] at h
    rw [List.any_cons, List.any_cons, eqf_v r s h.1 h', any_v s h' t h.2]
def rDctIn (neg : Bool) : R2 := fun y x H Q => ∃ (a : Addr) (o : Option V), x = .ref a ∧ DGet H a y o ∧ Q (.bl (if neg then !o.isSome else o.isSome)) H
theorem op_dctIn {X : Cx} (hu : X.A.units + 64 < cLine) : OpR X (compareOp .In) (rDctIn false) := by
  intro pins s σ H y x v u Q I ry rx h
  obtain ⟨a, o, rfl, g, q⟩ := h
  cases rx
  exact d_in (by omega) I g ry fun s' I' => ⟨.bl o.isSome, H, I', rfl, q⟩
theorem op_dctNotIn {X : Cx} (hu : X.A.units + 64 < cLine) : OpR X (compareOp .NotIn) (rDctIn true) := by
  intro pins s σ H y x v u Q I ry rx h
  obtain ⟨a, o, rfl, g, q⟩ := h
  cases rx
  exact d_notIn (by omega) I g ry fun s' I' => ⟨.bl (!o.isSome), H, I', rfl, q⟩
def rSgn : R2 := fun x y H Q => ∃ (c : Nat) (z : Str), x = .str ⟨#[c]⟩ ∧ y = .str z ∧ Q (.bl (decide (c ∈ z.cps.toList))) H
def rNotSgn : R2 := fun x y H Q => ∃ (c : Nat) (z : Str), x = .str ⟨#[c]⟩ ∧ y = .str z ∧ Q (.bl (!decide (c ∈ z.cps.toList))) H
def rInU (P : Program) (w : World) (K : PySem.W.Frag) : R2 := fun x y H Q => rIn K false x y H Q ∨ (rDctIn false x y H Q ∨ (rSInK P w false x y H Q ∨ rSgn x y H Q))
def rNotInU (P : Program) (w : World) (K : PySem.W.Frag) : R2 := fun x y H Q => rIn K true x y H Q ∨ (rDctIn true x y H Q ∨ (rSInK P w true x y H Q ∨ rNotSgn x y H Q))
theorem op_inU {X : Cx} (hu : X.A.units + 64 < cLine) : OpR X (compareOp .In) (rInU X.prog X.w X.K) := OpR.or op_in_seq (OpR.or (op_dctIn hu) (OpR.or or_sinK op_in_sign))
theorem op_notInU {X : Cx} (hu : X.A.units + 64 < cLine) : OpR X (compareOp .NotIn) (rNotInU X.prog X.w X.K) := OpR.or op_notIn_seq (OpR.or (op_dctNotIn hu) (OpR.or or_snotinK op_notIn_sign))
section
variable {Pg : Program} {w : World}
theorem rin_L {neg : Bool} {ds : List D} {d : D} (hf : ds.all D.flat = true) (hd : d.flat = true) (q : Q (.bl (if neg then !ds.any (fun y => y.eqf d) else ds.any (fun y => y.eqf d))) m) : OW K (rIn K neg) d (.lst ds) m Q := fun H v u M a b QQ k => by
  obtain ⟨p, xs, rfl, e, r⟩ := lst_at b
  exact ⟨p, xs, rfl, .inl (SqL.of e), flat_v a hd, flats_v r hf, k _ m _ H q (Sub.refl _) M (by unfold inV; rw [any_v a hd r hf]; exact .bl _)⟩
theorem rin_M {neg : Bool} {i : Nat} {p : Addr} {ds : List D} {d : D} (hm : m[i]? = some (p, .lst ds)) (hf : ds.all D.flat = true) (hd : d.flat = true) (q : Q (.bl (if neg then !ds.any (fun y => y.eqf d) else ds.any (fun y => y.eqf d))) m) : OW K (rIn K neg) d (.adr p) m Q := fun H v u M a b QQ k => by
  cases b
  obtain ⟨xs, e, r⟩ := cell_at M hm
  exact ⟨p, xs, rfl, .inl (SqL.of e), flat_v a hd, flats_v r hf, k _ m _ H q (Sub.refl _) M (by unfold inV; rw [any_v a hd r hf]; exact .bl _)⟩
theorem rin_T {neg : Bool} {ds : List D} {d : D} (hf : ds.all D.flat = true) (hd : d.flat = true) (q : Q (.bl (if neg then !ds.any (fun y => y.eqf d) else ds.any (fun y => y.eqf d))) m) : OW K (rIn K neg) d (.tup ds) m Q := fun H v u M a b QQ k => by
  obtain ⟨p, xs, rfl, e, r⟩ := tup_at b
  exact ⟨p, xs, rfl, .inr e, flat_v a hd, flats_v r hf, k _ m _ H q (Sub.refl _) M (by unfold inV; rw [any_v a hd r hf]; exact .bl _)⟩
theorem rin_D {neg : Bool} {kvs : List (Key × D)} {x : Key} (q : Q (.bl (if neg then !(valD kvs x).isSome else (valD kvs x).isSome)) m) : OW K (rDctIn neg) (kD x) (.dic kvs) m Q := fun H v u M a b QQ k => by
  obtain ⟨p, xs, rfl, e, n, r⟩ := dic_at b
  have ea := kD_v a
  subst ea
  refine ⟨p, L2.valV xs x, rfl, DGet.k e, k _ m _ H q (Sub.refl _) M ?_⟩
  have z := RdL.valV x n r
  have es : (L2.valV xs x).isSome = (valD kvs x).isSome := by
    cases c : valD kvs x with
    | none => rw [z.2 c] <;> rfl
    | some d =>
      obtain ⟨v, e1, _⟩ := z.1 d c
      rw [e1] <;> rfl
  rw [es]
  exact .bl _
theorem dicM_at {H : Hp} {i : Nat} {p : Addr} {ds : List (Key × D)} (M : MemOk K m H) (h : m[i]? = some (p, .dic ds)) : ∃ xs : List (Key × V), H p = some (.dK xs) ∧ xs.map Prod.fst = ds.map Prod.fst ∧ RdL K (hide m H) (xs.map Prod.snd) (ds.map Prod.snd) := M.get h
theorem rin_DM {neg : Bool} {i : Nat} {p : Addr} {kvs : List (Key × D)} {x : Key} (hm : m[i]? = some (p, .dic kvs)) (q : Q (.bl (if neg then !(valD kvs x).isSome else (valD kvs x).isSome)) m) : OW K (rDctIn neg) (kD x) (.adr p) m Q := fun H v u M a b QQ k => by
  cases b
  obtain ⟨xs, e, n, r⟩ := dicM_at M hm
  have ea := kD_v a
  subst ea
  refine ⟨p, L2.valV xs x, rfl, DGet.k e, k _ m _ H q (Sub.refl _) M ?_⟩
  have z := RdL.valV x n r
  have es : (L2.valV xs x).isSome = (valD kvs x).isSome := by
    cases c : valD kvs x with
    | none => rw [z.2 c] <;> rfl
    | some d =>
      obtain ⟨v, e1, _⟩ := z.1 d c
      rw [e1] <;> rfl
  rw [es]
  exact .bl _
/-- a set of numbers and texts, a cell -/
def setC (Pg : Program) (w : World) (p : Addr) (S : Key → Bool) (n : Nat) : Cell := .obj (SetK Pg w p S n)
theorem rin_S {neg : Bool} {i : Nat} {p : Addr} {S : Key → Bool} {n : Nat} {x : Key} (hm : m[i]? = some (p, setC Pg w p S n)) (q : Q (.bl (if neg then !S x else S x)) m) : OW K (rSInK Pg w neg) (kD x) (.adr p) m Q := fun H v u M a b QQ k => by
  cases b
  have ea := kD_v a
  subst ea
  exact ⟨x, p, S, n, rfl, rfl, M.get hm, k _ m _ H q (Sub.refl _) M (.bl _)⟩
theorem cw_set0 (q : ∀ p, Q (.adr p) (m ++ [(p, setC Pg w p (fun _ => false) 0)])) : CW K (rSet0K Pg w) [] m Q := fun H vs M a QQ k => by
  cases a
  refine ⟨rfl, fun p hp => ?_⟩
  have e : hide (m ++ [(p, setC Pg w p (fun _ => false) 0)]) (upd H p (SetK Pg w p (fun _ => false) 0)) = hide m H := hide_cell hp
  exact k _ _ _ _ (q p) (by rw [e]; exact Sub.refl _) (M.cell (c := setC Pg w p (fun _ => false) 0) hp upd_same) (.adr p)
theorem ew_saddK {ta : TE} {t : TA} (h : EW K ta δ m fun x m1 => (∃ (p : Addr) (i : Nat) (S : Key → Bool) (n : Nat), x = .adr p ∧ m1[i]? = some (p, setC Pg w p S n)) ∧ AW K t δ m1 fun xs m2 => ∃ (p : Addr) (i : Nat) (S : Key → Bool) (n : Nat) (k : Key), x = .adr p ∧ xs = [kD k] ∧ m2[i]? = some (p, setC Pg w p S n) ∧ n + 1 < scanBound ∧
      Q .non (m2.set i (p, setC Pg w p (fun j => S j || decide (j = k)) (if S k = true then n else n + 1)))) : EW K (tSAddK Pg w ta t) δ m Q := fun σ H s M QQ k =>
  h σ H s M _ fun x m1 v1 H1 ⟨⟨p, i, S, n, ex, hm⟩, q1⟩ s1 M1 r1 => by
    subst ex
    cases r1
    refine ⟨⟨p, S, n, rfl, M1.get hm⟩, q1 σ H1 (s.mono s1) M1 _ fun ds m2 vs H2 ⟨p', i', S', n', kk, e1, e2, hm', hn, q2⟩ s2 M2 r2 => ?_⟩
    cases e1
    subst e2
    cases r2 with
    | cons r2 r3 =>
      cases r3
      have ea := kD_v r2
      subst ea
      obtain ⟨M3, s3⟩ := set_cell (c' := setC Pg w p (fun j => S' j || decide (j = kk)) (if S' kk = true then n' else n' + 1)) (o := SetK Pg w p (fun j => S' j || decide (j = kk)) (if S' kk = true then n' else n' + 1)) M2 hm' upd_same
      exact ⟨p, kk, S', n', rfl, rfl, M2.get hm', hn, k _ _ _ _ q2 (s1.trans (s2.trans s3)) M3 .non⟩
theorem ow_sgn {c : Nat} {z : Str} (q : Q (.bl (decide (c ∈ z.cps.toList))) m) : OW K rSgn (.str ⟨#[c]⟩) (.str z) m Q := fun H v u M a b QQ k => by
  cases a
  cases b
  exact ⟨c, z, rfl, rfl, k _ m _ H q (Sub.refl _) M (.bl _)⟩
end
/-! ### dicts -/
def putD (kvs : List (Key × D)) (k : Key) (d : D) : List (Key × D) := if (kvs.any fun kv => decide (kv.1 = k)) = true then kvs.map (fun kv => if kv.1 = k then (kv.1, d) else kv) else kvs ++ [(k, d)]
theorem putD_rel {F : Hp} {k : Key} {v : V} {d : D} (rv : Rd K F v d) {vs : List (Key × V)} {ds : List (Key × D)} (n : vs.map Prod.fst = ds.map Prod.fst) (r : RdL K F (vs.map Prod.snd) (ds.map Prod.snd)) :
    (putK vs k v).map Prod.fst = (putD ds k d).map Prod.fst ∧ RdL K F ((putK vs k v).map Prod.snd) ((putD ds k d).map Prod.snd) := by
  have ha : (vs.any fun kv => decide (kv.1 = k)) = (ds.any fun kv => decide (kv.1 = k)) := by
    have e1 : (vs.any fun kv => decide (kv.1 = k)) = ((vs.map Prod.fst).any fun x => decide (x = k)) := by rw [List.any_map]; rfl
    have e2 : (ds.any fun kv => decide (kv.1 = k)) = ((ds.map Prod.fst).any fun x => decide (x = k)) := by rw [List.any_map]; rfl
    rw [e1, e2, n]
  unfold putK putD
  rw [ha]
  by_cases c : (ds.any fun kv => decide (kv.1 = k)) = true
  · rw [if_pos c, if_pos c]
    clear ha c
    have key : ∀ (vs : List (Key × V)) (ds : List (Key × D)), vs.map Prod.fst = ds.map Prod.fst → RdL K F (vs.map Prod.snd) (ds.map Prod.snd) →
        (vs.map (fun kv => if kv.1 = k then (kv.1, v) else kv)).map Prod.fst = (ds.map (fun kv => if kv.1 = k then (kv.1, d) else kv)).map Prod.fst ∧ RdL K F ((vs.map (fun kv => if kv.1 = k then (kv.1, v) else kv)).map Prod.snd) ((ds.map (fun kv => if kv.1 = k then (kv.1, d) else kv)).map Prod.snd) := by
      intro vs
      induction vs with
      | nil =>
        intro ds n r
        cases ds with
        | nil => exact ⟨rfl, .nil⟩
        | cons => simp at n
      | cons p vs ih =>
        intro ds n r
        cases ds with
        | nil => simp at n
        | cons q ds =>
          obtain ⟨k1, v1⟩ := p
          obtain ⟨k2, d2⟩ := q
          simp only [List.map_cons, List.cons.injEq] at n
          obtain ⟨n1, n2⟩ := n
          subst n1
          cases r with
          | cons r1 r2 =>
            obtain ⟨a, b⟩ := ih ds n2 r2
            by_cases e : k1 = k
            · simp only [List.map_cons, if_pos e]
              exact ⟨by rw [a], .cons rv b⟩
            · simp only [List.map_cons, if_neg e]
              exact ⟨by rw [a], .cons r1 b⟩
    exact key vs ds n r
  · rw [if_neg c, if_neg c, List.map_append, List.map_append, List.map_append, List.map_append, n]
    exact ⟨rfl, r.append (.cons rv .nil)⟩
theorem ew_dnew (q : Q (.dic []) m) : EW K tDNewK δ m Q := fun σ H s M QQ k => fun p hp => by
  obtain ⟨M2, s2⟩ := M.new (o := .dK []) hp
  refine k _ m _ _ q s2 M2 (.dic (vs := []) ?_ rfl .nil)
  rw [hide_new M hp]
  exact upd_same
theorem ew_dnewM (q : ∀ p, Q (.adr p) (m ++ [(p, .dic [])])) : EW K tDNewK δ m Q := fun σ H s M QQ k => fun p hp => by
  have e : hide (m ++ [(p, Cell.dic [])]) (upd H p (.dK [])) = hide m H := hide_cell hp
  exact k _ _ _ _ (q p) (by rw [e]; exact Sub.refl _) (M.cell (c := .dic []) hp ⟨[], upd_same, rfl, .nil⟩) (.adr p)
/-- d[k] = v, d a cell -/
theorem sw_dput {td ty tv : TE} (h : EW K tv δ m fun z m1 => EW K td δ m1 fun x m2 => EW K ty δ m2 fun y m3 => ∃ (p : Addr) (i : Nat) (kvs : List (Key × D)) (k : Key), x = .adr p ∧ y = kD k ∧ m3[i]? = some (p, .dic kvs) ∧ kvs.length < sizeLine ∧ P.nx δ (m3.set i (p, .dic (putD kvs k z)))) : SW K (sDPut td ty tv) δ m P := fun σ H s M E k =>
  h σ H s M _ fun z m1 vz H1 q1 s1 M1 r1 => q1 σ H1 (s.mono s1) M1 _ fun x m2 vx H2 q2 s2 M2 r2 => q2 σ H2 (s.mono (s1.trans s2)) M2 _ fun y m3 vy H3 ⟨p, i, kvs, kk, e1, e2, hm, hl, q⟩ s3 M3 r3 => by
    subst e1
    subst e2
    cases r2
    have ea := kD_v r3
    subst ea
    obtain ⟨xs, e, n, r⟩ := dicM_at M3 hm
    obtain ⟨a, b⟩ := putD_rel (k := kk) (r1.mono (s2.trans s3)) n r
    have hlen : xs.length = kvs.length := by
      have := congrArg List.length n
      simpa using this
    obtain ⟨M4, s4⟩ := set_cell (c' := .dic (putD kvs kk z)) (o := .dK (putK xs kk vz)) M3 hm ⟨_, upd_same, a, b⟩
    exact ⟨p, _, rfl, DPut.k e (by rw [hlen]; exact hl), k.nx δ _ σ _ q ((s1.trans s2).trans (s3.trans s4)) (s.mono ((s1.trans s2).trans (s3.trans s4))) M4⟩
/-! ### instances -/
def putFD (f : Str) (d : D) : List (Str × D) → List (Str × D)
  | [] => [(f, d)]
  | (g, x) :: r => if g = f then (g, d) :: r else (g, x) :: putFD f d r
theorem putF_rel {F : Hp} {f : Str} {v : V} {d : D} (rv : Rd K F v d) : ∀ {vs : List (Str × V)} {ds : List (Str × D)}, vs.map Prod.fst = ds.map Prod.fst → RdL K F (vs.map Prod.snd) (ds.map Prod.snd) → (putF f v vs).map Prod.fst = (putFD f d ds).map Prod.fst ∧ RdL K F ((putF f v vs).map Prod.snd) ((putFD f d ds).map Prod.snd)
  | [], [], _, _ => ⟨rfl, .cons rv .nil⟩
  | [], _ :: _, n, _ => by simp at n
  | _ :: _, [], n, _ => by simp at n
  | (k1, v1) :: vs, (k2, d2) :: ds, n, r => by
    simp only [List.map_cons, List.cons.injEq] at n
    obtain ⟨n1, n2⟩ := n
    subst n1
    cases r with
    | cons r1 r2 =>
      unfold L2.putF putFD
      by_cases e : k1 = f
      · rw [if_pos e, if_pos e]
        exact ⟨by rw [List.map_cons, List.map_cons, n2], .cons rv r2⟩
      · rw [if_neg e, if_neg e]
        obtain ⟨a, b⟩ := putF_rel (f := f) rv n2 r2
        exact ⟨by rw [List.map_cons, List.map_cons, a], .cons r1 b⟩
theorem lookup_rel {F : Hp} {f : Str} : ∀ {vs : List (Str × V)} {ds : List (Str × D)}, vs.map Prod.fst = ds.map Prod.fst → RdL K F (vs.map Prod.snd) (ds.map Prod.snd) → (∀ d, ds.lookup f = some d → ∃ v, vs.lookup f = some v ∧ Rd K F v d) ∧ (ds.lookup f = none → vs.lookup f = none)
  | [], [], _, _ => ⟨fun d h => (nomatch h), fun _ => rfl⟩
  | [], _ :: _, n, _ => by simp at n
  | _ :: _, [], n, _ => by simp at n
  | (k1, v1) :: vs, (k2, d2) :: ds, n, r => by
    simp only [List.map_cons, List.cons.injEq] at n
    obtain ⟨n1, n2⟩ := n
    subst n1
    cases r with
    | cons r1 r2 =>
      have ih := lookup_rel (f := f) n2 r2
      by_cases e : f = k1
      · have hb : (f == k1) = true := by simpa using e
        simp only [List.lookup, hb]
        exact ⟨fun d h => (by cases h; exact ⟨_, rfl, r1⟩), fun h => (nomatch h)⟩
      · have hb : (f == k1) = false := by simpa using e
        simp only [List.lookup, hb]
        exact ih
theorem ins_at {H : Hp} {v : V} {C : Addr} {ds : List (Str × D)} (r : Rd K (hide m H) v (.ins C ds)) : ∃ (a dx : Addr) (xs : List (Str × V)), v = .ref a ∧ H a = some (.ins C dx xs) ∧ xs.map Prod.fst = ds.map Prod.fst ∧ RdL K (hide m H) (xs.map Prod.snd) (ds.map Prod.snd) := by
  cases r with
  | ins e n r => exact ⟨_, _, _, rfl, hide_le _ _ e, n, r⟩
theorem insM_at {H : Hp} {i : Nat} {p C : Addr} {ds : List (Str × D)} (M : MemOk K m H) (h : m[i]? = some (p, .ins C ds)) : ∃ (dx : Addr) (xs : List (Str × V)), H p = some (.ins C dx xs) ∧ xs.map Prod.fst = ds.map Prod.fst ∧ RdL K (hide m H) (xs.map Prod.snd) (ds.map Prod.snd) := M.get h
theorem ew_fld {f : Str} (h : EW K ta δ m fun x m1 => ∃ (C : Addr) (fs : List (Str × D)) (d : D), x = .ins C fs ∧ Cls K C ∧ NoAttr K C f ∧ fs.lookup f = some d ∧ Q d m1) : EW K (tFld K ta f) δ m Q := fun σ H s M QQ k =>
  h σ H s M _ fun x m1 v H1 ⟨C, fs, d, ex, c, n, l, q⟩ s1 M1 r1 => by
    subst ex
    obtain ⟨a, dx, xs, rfl, e, nm, r⟩ := ins_at r1
    obtain ⟨w, e1, r2⟩ := (lookup_rel (f := f) nm r).1 d l
    exact ⟨a, C, dx, xs, w, rfl, e, c, n, e1, k d m1 w H1 q s1 M1 r2⟩
theorem ew_fldM {f : Str} (h : EW K ta δ m fun x m1 => ∃ (i : Nat) (p C : Addr) (fs : List (Str × D)) (d : D), x = .adr p ∧ m1[i]? = some (p, .ins C fs) ∧ Cls K C ∧ NoAttr K C f ∧ fs.lookup f = some d ∧ Q d m1) : EW K (tFld K ta f) δ m Q := fun σ H s M QQ k =>
  h σ H s M _ fun x m1 v H1 ⟨i, p, C, fs, d, ex, hm, c, n, l, q⟩ s1 M1 r1 => by
    subst ex
    cases r1
    obtain ⟨dx, xs, e, nm, r⟩ := insM_at M1 hm
    obtain ⟨w, e1, r2⟩ := (lookup_rel (f := f) nm r).1 d l
    exact ⟨p, C, dx, xs, w, rfl, e, c, n, e1, k d m1 w H1 q s1 M1 r2⟩
theorem sw_fld {tv : TE} {f : Str} (h : EW K tv δ m fun d m1 => EW K ta δ m1 fun x m2 => ∃ (i : Nat) (p C : Addr) (fs : List (Str × D)), x = .adr p ∧ m2[i]? = some (p, .ins C fs) ∧ Cls K C ∧ NoAttr K C f ∧ fs.length < 1000 ∧ P.nx δ (m2.set i (p, .ins C (putFD f d fs)))) : SW K (sFld K ta tv f) δ m P := fun σ H s M E k =>
  h σ H s M _ fun d m1 v H1 q1 s1 M1 r1 => q1 σ H1 (s.mono s1) M1 _ fun x m2 vx H2 ⟨i, p, C, fs, ex, hm, c, n, hl, q⟩ s2 M2 r2 => by
    subst ex
    cases r2
    obtain ⟨dx, xs, e, nm, r⟩ := insM_at M2 hm
    obtain ⟨a, b⟩ := putF_rel (f := f) (r1.mono s2) nm r
    have hlen : xs.length = fs.length := by simpa using congrArg List.length nm
    obtain ⟨M3, s3⟩ := set_cell (c' := .ins C (putFD f d fs)) (o := .ins C dx (putF f v xs)) M2 hm ⟨dx, _, upd_same, a, b⟩
    exact ⟨p, C, dx, xs, rfl, e, c, n, by rw [hlen]; exact hl, k.nx δ _ σ _ q (s1.trans (s2.trans s3)) (s.mono (s1.trans (s2.trans s3))) M3⟩
/-- C(..): the new instance is a cell while __init__ runs, then still -/
theorem ew_make {C : Addr} {Pf : FS} {E : XK} {t : TA} {dvs : List V} {dd : List D} (hd : ∀ F, RdL K F dvs dd) (h : AW K t δ m fun ds m1 => ∀ p, Pf (.adr p :: (ds ++ dd)) (m1 ++ [(p, .ins C [])]) fun d m2 => d = .non ∧ ∃ (m3 : Mem) (fs : List (Str × D)), m2 = m3 ++ [(p, .ins C fs)] ∧ Q (.ins C fs) m3) : EW K (tMake C (spOf K Pf) dvs E t) δ m Q := fun σ H s M QQ k =>
  h σ H s M _ fun ds m1 vs H1 q1 s1 M1 r1 => by
    intro x dx hx hdx hne
    have hx2 : upd H1 dx (.own x) x = none := by rw [upd_ne (Ne.symm hne)]; exact hx
    obtain ⟨M2, s2⟩ := M1.new (o := .own x) hdx
    have e : hide (m1 ++ [(x, Cell.ins C [])]) (upd (upd H1 dx (.own x)) x (.ins C dx [])) = hide m1 (upd H1 dx (.own x)) := hide_cell hx2
    have M3 : MemOk K (m1 ++ [(x, Cell.ins C [])]) (upd (upd H1 dx (.own x)) x (.ins C dx [])) := M2.cell (c := .ins C []) hx2 ⟨dx, [], upd_same, rfl, .nil⟩
    have s3 : Sub (hide m1 H1) (hide (m1 ++ [(x, Cell.ins C [])]) (upd (upd H1 dx (.own x)) x (.ins C dx []))) := by rw [e]; exact s2
    refine ⟨.adr x :: (ds ++ dd), m1 ++ [(x, .ins C [])], _, .cons (.adr x) ((r1.mono s3).append (hd _)), M3, q1 x, fun d m' v H' ⟨ed, m4, fs, em, q⟩ s4 M4 r4 => ?_⟩
    subst ed
    subst em
    cases r4
    obtain ⟨M5, sb, hp⟩ := M4.drop
    exact ⟨rfl, k _ m4 _ H' q (s1.trans (s3.trans (s4.trans sb))) M5 (still_of (d := .ins C fs) (M4.at_ x (.ins C fs) (by simp)) rfl sb hp)⟩
theorem ew_prop {C : Addr} {Pf : FS} {E : XK} (h : EW K ta δ m fun x m1 => ∃ fs, x = .ins C fs ∧ Pf [x] m1 Q) : EW K (tProp C (spOf K Pf) [] E ta) δ m Q := fun σ H s M QQ k =>
  h σ H s M _ fun x m1 v H1 ⟨fs, ex, q⟩ s1 M1 r1 => by
    have r1' := r1
    rw [ex] at r1'
    obtain ⟨a, dx, xs, ev, e, nm, r⟩ := ins_at r1'
    subst ev
    exact ⟨a, dx, xs, rfl, e, [x], m1, Q, .cons r1 .nil, M1, q, fun d m' v H' q2 s2 M2 r2 => k d m' v H' q2 (s1.trans s2) M2 r2⟩
theorem ew_meth {C : Addr} {nm : Str} {Pf : FS} {E : XK} {t : TA} {dvs : List V} {dd : List D} (hd : ∀ F, RdL K F dvs dd) (h : EW K ta δ m fun x m1 => ∃ (fs : List (Str × D)), x = .ins C fs ∧ fs.lookup nm = none ∧ AW K t δ m1 fun ds m2 => Pf (x :: (ds ++ dd)) m2 Q) : EW K (tMeth C nm (spOf K Pf) dvs E ta t) δ m Q := fun σ H s M QQ k =>
  h σ H s M _ fun x m1 v H1 ⟨fs, ex, l, q⟩ s1 M1 r1 => by
    have r1' := r1
    rw [ex] at r1'
    obtain ⟨a, dx, xs, ev, e, nms, r⟩ := ins_at r1'
    subst ev
    refine ⟨a, dx, xs, rfl, e, (lookup_rel (f := nm) nms r).2 l, q σ H1 (s.mono s1) M1 _ fun ds m2 vs H2 q2 s2 M2 r2 => ?_⟩
    exact ⟨x :: (ds ++ dd), m2, Q, .cons (r1.mono s2) (r2.append (hd _)), M2, q2, fun d m' v H' q3 s3 M3 r3 => k d m' v H' q3 (s1.trans (s2.trans s3)) M3 r3⟩
/-! ### isinstance -/
def D.tyN : D → Option String
  | .non => some "NoneType"
  | .bl _ => some "bool"
  | .int _ => some "int"
  | .str _ => some "str"
  | .lst _ => some "list"
  | .tup _ => some "tuple"
  | .dic _ => some "dict"
  | _ => none
theorem cw_isi {x : D} {n c : String} {b : Bool} (hx : x.tyN = some n) (hk : kitB n c = some b) (ht : ∀ ds, x ≠ .tup ds) (q : Q (.bl b) m) : CW K (rIsi K) [x, .ty c] m Q := fun H vs M a QQ k => by
  cases a with
  | cons a a2 =>
    cases a2 with
    | cons a2 a3 =>
      cases a3
      cases a2
      have fin := k _ m _ H q (Sub.refl _) M (.bl b)
      cases a with
      | non => cases hx; exact ⟨_, _, _, _, b, rfl, .ty c, .base .non, kit_ty hk, fin⟩
      | bl z => cases hx; exact ⟨_, _, _, _, b, rfl, .ty c, .base (.bl z), kit_ty hk, fin⟩
      | int z => cases hx; exact ⟨_, _, _, _, b, rfl, .ty c, .base (.int z), kit_ty hk, fin⟩
      | str z => cases hx; exact ⟨_, _, _, _, b, rfl, .ty c, .base (.str z), kit_ty hk, fin⟩
      | lst e r => cases hx; exact ⟨_, _, _, _, b, rfl, .ty c, .base (.lst (hide_le _ _ e)), kit_ty hk, fin⟩
      | tup e r => exact absurd rfl (ht _)
      | dic e n r => cases hx; exact ⟨_, _, _, _, b, rfl, .ty c, .base (.dK (hide_le _ _ e)), kit_ty hk, fin⟩
      | _ => cases hx
theorem ew_ty {n : String} (q : Q (.ty n) m) : EW K (tC (.ty n)) δ m Q := fun σ H s M QQ k => k _ m _ H q (Sub.refl _) M (.ty n)
theorem ew_ref {a : Addr} (q : Q (.adr a) m) : EW K (tC (.ref a)) δ m Q := fun σ H s M QQ k => k _ m _ H q (Sub.refl _) M (.adr a)
/-! ### texts -/
theorem cw_join {x : Str} {ys : List Str} (hz : (ys.map (·.length)).sum + ys.length * x.length ≤ 16777216) (q : Q (.str (Txt.join x ys)) m) : MW K (fun v xs H Q => ∃ a p, ∃ ys : List Str, v = .str a ∧ xs = [.ref p] ∧ (SqL K H p (ys.map V.str) ∨ SqT K H p (ys.map V.str)) ∧ (ys.map (·.length)).sum + ys.length * a.length ≤ 16777216 ∧ Q (.str (Txt.join a ys)) H) (.str x) [.lst (ys.map D.str)] m Q := fun H v vs M a b QQ k => by
  cases a
  cases b with
  | cons b b2 =>
    cases b2
    obtain ⟨p, xs, rfl, e, r⟩ := lst_at b
    have := r.strs_v
    subst this
    exact ⟨x, p, ys, rfl, rfl, .inl (SqL.of e), hz, k _ m _ H q (Sub.refl _) M (.str _)⟩
/-! ### xs[::-1] -/
theorem ew_revL {te : TE} (h : EW K te δ m fun x m1 => ∃ ds, x = .lst ds ∧ Q (.lst ds.reverse) m1) : EW K (tRevL K te) δ m Q := fun σ H s M QQ k =>
  h σ H s M _ fun x m1 v H1 ⟨ds, ex, q⟩ s1 M1 r1 => by
    subst ex
    obtain ⟨p, xs, rfl, e, r⟩ := lst_at r1
    refine ⟨p, xs, rfl, SqL.of e, fun z hz => ?_⟩
    obtain ⟨M2, s2, r3⟩ := new_lst M1 r.reverse hz
    exact k _ m1 _ _ q (s1.trans s2) M2 r3
end
end DL

set_option Elab.async false
set_option linter.all false
set_option maxRecDepth 100000
set_option maxHeartbeats 1000000
set_option autoImplicit false
namespace DL
open PySem PySem.Spec PyProof.Rows L2
/-! ### defs, their promises, their calls -/
/-- what stands at a function's address -/
def FdAt (K : PySem.W.Frag) (f : Addr) (fd : FuncData) : Prop := ∃ (oc : Value) (od : Option Addr) (osl : Array (Option Value)), K.lookup f = some ⟨oc, od, .func fd, osl⟩
theorem Fnc.fdAt {K : PySem.W.Frag} {x qual : Str} {st : Stmt} {f : Addr} {fd : FuncData} (F : Fnc K x qual st f fd) : FdAt K f fd := let ⟨oc, od, _, _, _, _, _, _, _, sl, _, _, l⟩ := F.is; ⟨oc, od, sl, l⟩
def Def (P : Program) (w : World) (K : PySem.W.Frag) (mg : Str → Option Value) (base : Heap) (k : Nat) (f : Addr) (ps : List Str) (Pf : FS) : Prop := ∃ fd, FnOk P w K mg base CX0 k f fd ps (spOf K Pf) ∧ Binds K fd ps [] ∧ FdAt K f fd
def DefG (P : Program) (w : World) (K : PySem.W.Frag) (mg : Str → Option Value) (base : Heap) (k : Nat) (f : Addr) (ps : List Str) (Pf : FS) : Prop := ∃ fd, FnG P w K mg base k f fd ps (spOf K Pf) ∧ Binds K fd ps [] ∧ FdAt K f fd
/-- how a def stands behind the top -/
def Has (K : PySem.W.Frag) (x qual : Str) (st : Stmt) (f : Addr) (ps : List Str) : Prop := ∃ fd, Fnc K x qual st f fd ∧ Binds K fd ps []
section
variable {P : Program} {w : World} {K : PySem.W.Frag} {mg : Str → Option Value} {base : Heap} {f : Addr} {ps : List Str} {Pf : FS} {k : Nat}
theorem Def.g (h : Def P w K mg base k f ps Pf) : DefG P w K mg base k f ps Pf := let ⟨fd, F, b⟩ := h; ⟨fd, FnG.of F, b⟩
theorem Def.up {j : Nat} (h : Def P w K mg base j f ps Pf) (l : j ≤ k) : Def P w K mg base k f ps Pf := let ⟨fd, F, b⟩ := h; ⟨fd, F.mono l, b⟩
theorem DefG.up {j : Nat} (h : DefG P w K mg base j f ps Pf) (l : j ≤ k) : DefG P w K mg base k f ps Pf := let ⟨fd, F, b⟩ := h; ⟨fd, F.up l, b⟩
theorem Def.imp {Pf' : FS} (h : Def P w K mg base k f ps Pf) (i : ∀ ds m Q, Pf' ds m Q → Pf ds m Q) : Def P w K mg base k f ps Pf' := let ⟨fd, F, b⟩ := h
  ⟨fd, F.imp fun vs H Q E ⟨ds, m, QS, r, M, p, k⟩ => ⟨ds, m, QS, r, M, i _ _ _ p, k⟩, b⟩
/-- a def's promise from its body -/
theorem defOk {x qual : Str} {st : Stmt} {N : List Str} (h : Has K x qual st f ps) (S : FnScope N ps (defScope st)) {t : TS} (hlen : ∀ ds m Q, Pf ds m Q → ds.length = ps.length)
    (hd : ∀ (cdv : Value) (A : Around) (outer : List Env) (s : Shared) (H : Hp) (E : XK), Room k (A.deeper (envOfC qual (defScope st) s.heap.objs.size f cdv)) → PSs (cxOf CX0 P w K mg base N qual (defScope st) f cdv A outer s H E).nox (defBody st) t)
    (hs : ∀ ds m (Q : D → Mem → Prop), Pf ds m Q → SW K t (startD N.length ds) m { nx := fun _ m' => Q .non m', rt := Q }) : Def P w K mg base (k + 1) f ps Pf := let ⟨fd, F, b⟩ := h; ⟨fd, okD F S hlen hd hs, b, Fnc.fdAt F⟩
theorem defOkG {x qual : Str} {st : Stmt} {N : List Str} (h : Has K x qual st f ps) (S : FnScope N ps (defScope st)) {t : TS} (hlen : ∀ ds m Q, Pf ds m Q → ds.length = ps.length)
    (hd : ∀ (cdv : Value) (A : Around) (outer : List Env) (s : Shared) (H : Hp), A.guards = some [] → Room k (A.deeper (envOfC qual (defScope st) s.heap.objs.size f cdv)) → PSs (cxOf CX0 P w K mg base N qual (defScope st) f cdv A outer s H E0).nox (defBody st) t)
    (hs : ∀ ds m (Q : D → Mem → Prop), Pf ds m Q → SW K t (startD N.length ds) m { nx := fun _ m' => Q .non m', rt := Q }) : DefG P w K mg base (k + 1) f ps Pf := let ⟨fd, F, b⟩ := h; ⟨fd, okG F S hlen hd hs, b, Fnc.fdAt F⟩
end
section
variable {X : Cx} {k : Nat} {f C : Addr} {ps : List Str} {Pf : FS} {x : Str} {p pos : Pos} {e : Expr} {es : List Expr} {t : TA} {ta : TE}
theorem pe_def (D : Def X.prog X.w X.K X.mg X.base k f ps Pf) (hr : Room k X.A) (hg : Gl X x) (hm : X.mg x = some (.ref f)) (hk : PySem.W.keepIn X.K (.ref f) = true) (ha : PA X (e :: es) t)
    (hdb : (x == ("__debug__" : Str)) = false := by decide) (he : starEach (e :: es) X.env = (false, eval e X.env) :: starEach es X.env := by rfl) (hpl : (backTo pos (starEach es X.env)).any (·.1) = false := by rfl) :
    PE X (.Call (.Name x p) (e :: es) [] pos) (tCall (spOf X.K Pf) [] E0 t) := let ⟨_, F, b, _⟩ := D; pe_call F hr hg hm hk b .nil pass0 ha hdb he hpl
theorem pe_def0 (D : Def X.prog X.w X.K X.mg X.base k f ps Pf) (hr : Room k X.A) (hg : Gl X x) (hm : X.mg x = some (.ref f)) (hk : PySem.W.keepIn X.K (.ref f) = true) (hdb : (x == ("__debug__" : Str)) = false := by decide) :
    PE X (.Call (.Name x p) [] [] pos) (tCall (spOf X.K Pf) [] E0 tNil) := let ⟨_, F, b, _⟩ := D; pe_call0 F hr hg hm hk b .nil pass0 hdb
theorem pe_defG (hg0 : X.A.guards = some []) (D : DefG X.prog X.w X.K X.mg X.base k f ps Pf) (hr : Room k X.A) (hg : Gl X x) (hm : X.mg x = some (.ref f)) (hk : PySem.W.keepIn X.K (.ref f) = true) (ha : PA X (e :: es) t)
    (hdb : (x == ("__debug__" : Str)) = false := by decide) (he : starEach (e :: es) X.env = (false, eval e X.env) :: starEach es X.env := by rfl) (hpl : (backTo pos (starEach es X.env)).any (·.1) = false := by rfl) :
    PE X (.Call (.Name x p) (e :: es) [] pos) (tCall (spOf X.K Pf) [] E0 t) := let ⟨_, F, b, _⟩ := D; pe_callG hg0 F hr hg hm hk b .nil ha hdb he hpl
theorem pe_propD {nm : Str} (he : PE X e ta) (c : Cls X.K C) (hp : ∃ q, PropOf X.K C nm q f) (D : Def X.prog X.w X.K X.mg X.base k f ps Pf) (hr : Room (k + 1) X.A) (hab : attributeBase e nm X.env (eval e X.env) = eval e X.env) :
    PE X (.Attribute e nm pos) (tProp C (spOf X.K Pf) [] E0 ta) := let ⟨_, F, b, _⟩ := D; let ⟨_, q⟩ := hp; pe_prop he c q F hr b .nil pass0 hab
theorem pe_methD {nm : Str} {apos : Pos} {pl : Sem Bool} {o : Expr} (he : PE X o ta) (c : Cls X.K C) (hm : Meth X.K C nm f) (D : Def X.prog X.w X.K X.mg X.base k f ps Pf) (hr : Room k X.A) (ha : PA X (e :: es) t)
    (hst : starEach (e :: es) X.env = (false, eval e X.env) :: starEach es X.env := by rfl) (hpl : (backTo pos (starEach es X.env)).any (·.1) = false := by rfl)
    (ht : eval (.Call (.Attribute o nm apos) (e :: es) [] pos) X.env = (do
      let ov ← eval o X.env
      standAt apos.atName
      let (f, first) ← holding [ov] (getMethod ov nm pl)
      callWith pos f first (backTo pos (starEach (e :: es) X.env)) (backToKw pos (keywordEach [] X.env))) := by rfl) :
    PE X (.Call (.Attribute o nm apos) (e :: es) [] pos) (tMeth C nm (spOf X.K Pf) [] E0 ta t) := let ⟨_, F, b, _⟩ := D; pe_meth he c hm F hr b .nil pass0 ha hst hpl ht
/-- len(o), o of a class of one's own -/
def rLenOwn (C : Addr) (sp : Sp) : List V → Hp → VK → Prop := fun vs H Q => ∃ a dx fs, vs = [.ref a] ∧ H a = some (.ins C dx fs) ∧ sp [.ref a] H (fun v H' => ∃ n : Nat, v = .int (n : Nat) ∧ n < 2 ^ 63 ∧ Q v H') E0
theorem cr_lenOwn (hs : PySem.W.findIn X.K (.ref C) "__len__" = some (some (.ref f)) ∧ PySem.W.isFn X.K (.ref f) = true) (D : Def X.prog X.w X.K X.mg X.base k f ps Pf) (hr : Room (k + 1) X.A) : CallR X (.builtin "len") (rLenOwn C (spOf X.K Pf)) := by
  obtain ⟨fd, F, b, _⟩ := D
  intro pins s σ H vs us Q I r h
  obtain ⟨a, dx, fs, rfl, ea, q⟩ := h
  cases r with
  | cons r1 r2 =>
    cases r2
    cases r1
    obtain ⟨mA, O, _, _, _, _⟩ := ins_get I.hok ea
    obtain ⟨od, J, _⟩ := O.look
    apply Calls.call_function_entry kind_len plain_len entry_len (args_len1 _)
    unfold Builtin.«len»
    apply wpAny_bind (m := oneArg "len" _)
    apply wpAny_pure
    apply wpAny_bind (m := callSpecial? (.ref a) (Str.ofString "__len__"))
    apply PySem.W.special_fn (args := []) I.kIn J hs.1 (beq_iff_eq.mp hs.2)
    have hl : ([Value.ref a] ++ []).length = ps.length := F.len _ _ _ _ q
    apply wpAny_call
    refine codeAny_mono (F.run X.A.in1 X.stack s H ⟨[.ref a], []⟩ ([.ref a] ++ []) [.ref a] _ E0 hr.in1 I.env0.in1 (b s [.ref a] I.kIn hl) (show Vals [V.ref a] ([Value.ref a] ++ []) from .cons rfl .nil) q) ?_
    intro res s2 c
    match res, c with
    | .error _, c => exact c.elim
    | .ok .next, c => exact c.elim
    | .ok .brk, c => exact c.elim
    | .ok .cont, c => exact c.elim
    | .ok (.ret u), c =>
      obtain ⟨v, H', I3, rv, n, ev, hn, q3⟩ := I.after c
      subst ev
      obtain ⟨tk, rfl⟩ := rv
      apply wpAny_bind
      apply wpAny_holding
      apply wpAny_pure
      apply wpAny_bind
      apply wpAny_letGo
      show wpAny _ _ (if ((n : Nat) : Int) < 0 then _ else _) _ _ _
      rw [if_neg (by omega)]
      show wpAny _ _ (if ((n : Nat) : Int) ≥ 2 ^ 63 then _ else _) _ _ _
      rw [if_neg (by omega)]
      exact wpAny_bind (wpAny_mkInt (wpAny_pure ⟨_, rfl, ⟨.int ((n : Nat) : Int), H', I3.tok _, ⟨_, rfl⟩, q3⟩⟩))
end
/-! ### wide arithmetic -/
def CPowW (i j : Int) : Prop := 0 ≤ j ∧ (Builtin.Int.intBits i : Int) * j ≤ 2 ^ 27
theorem op_powW {X : Cx} : OpR X (binaryOp .Pow) (rI CPowW fun i j => .int (i ^ j.toNat)) := opI fun i j _ _ _ _ _ hc q => pow_int hc.1 hc.2 q
theorem op_mulS {X : Cx} : OpR X (binaryOp .Mult) (fun x y H Q => ∃ (z : Str) (n : Int), x = .str z ∧ y = .int n ∧ PySem.MulOk z n ∧ Q (.str (Txt.mul z n)) H) := by
  intro pins s σ H x y v u Q I rx ry h
  obtain ⟨z, n, rfl, rfl, hk, q⟩ := h
  obtain ⟨t1, rfl⟩ := rx
  obtain ⟨t2, rfl⟩ := ry
  exact SB.mul hk fun t' k => ⟨.str (Txt.mul z n), H, I.tok _, ⟨_, rfl⟩, q⟩
def rMulS : R2 := fun x y H Q => ∃ (z : Str) (n : Int), x = .str z ∧ y = .int n ∧ PySem.MulOk z n ∧ Q (.str (Txt.mul z n)) H
def rMulU : R2 := fun x y H Q => rI CMul (fun i j => .int (i * j)) x y H Q ∨ (rI CMulW (fun i j => .int (i * j)) x y H Q ∨ rMulS x y H Q)
theorem op_mulU {X : Cx} : OpR X (binaryOp .Mult) rMulU := OpR.or op_mul (OpR.or op_mulW op_mulS)
section
variable {K : PySem.W.Frag} {δ : List (Option D)} {m : Mem} {Q : D → Mem → Prop} {te ta tb tc : TE} {F : Hp} {P : Ps} {t u : TS} {tt : TT} {g : TG} {wi : TI}
theorem ow_mul1 {i j : Int} (h : -(2 ^ 64) < j ∧ j < 2 ^ 64) (q : Q (.int (i * j)) m) : OW K rMulU (.int i) (.int j) m Q := ow_or1 (ow_ic (g := fun i j => i * j) (.inr h) q)
theorem ow_mul2 {i j : Int} (h : -(2 ^ 64) < i ∧ i < 2 ^ 64) (q : Q (.int (i * j)) m) : OW K rMulU (.int i) (.int j) m Q := ow_or1 (ow_ic (g := fun i j => i * j) (.inl h) q)
theorem ow_mulW {i j : Int} (h : CMulW i j) (q : Q (.int (i * j)) m) : OW K rMulU (.int i) (.int j) m Q := ow_or2 (ow_or1 (ow_ic (g := fun i j => i * j) h q))
theorem cw_own {C : Addr} {Pf : FS} {fs : List (Str × D)} (h : Pf [.ins C fs] m fun d m' => ∃ n : Nat, d = .int (n : Nat) ∧ n < 2 ^ 63 ∧ Q d m') : CW K (rLenOwn C (spOf K Pf)) [.ins C fs] m Q := fun H vs M a QQ k => by
  cases a with
  | cons a n =>
    cases n
    obtain ⟨p, dx, xs, rfl, e, nm, r⟩ := ins_at a
    refine ⟨p, dx, xs, rfl, e, [.ins C fs], m, _, .cons a .nil, M, h, fun d m' v H' ⟨n, ed, hn, q⟩ s2 M2 r2 => ?_⟩
    subst ed
    cases r2
    exact ⟨n, rfl, hn, k _ m' _ H' q s2 M2 (.int _)⟩
/-! ### a dict comprehension -/
theorem ew_dc {tk tv : TE} {vs : List Nat} (tm : Tame g vs) (h : IW K wi δ m fun ds m1 => ∃ Iv : Nat → List (Key × D) → Mem → Prop, Iv 0 [] m1 ∧
      (∀ (j : Nat) (d : D) (acc : List (Key × D)) (m' : Mem) (z : Addr), ds[j]? = some d → Iv j acc m' → acc.length < sizeLine ∧ GW K g d (wipeD δ vs) (m' ++ [(z, .dic acc)]) fun δ2 m2 => TW K tt δ2 m2 fun b m3 =>
        if b = true then EW K tk δ2 m3 fun y m4 => EW K tv δ2 m4 fun x m5 => ∃ (k : Key) (m6 : Mem), y = kD k ∧ m5 = m6 ++ [(z, .dic acc)] ∧ Iv (j + 1) (putD acc k x) m6 else ∃ m5, m3 = m5 ++ [(z, .dic acc)] ∧ Iv (j + 1) acc m5) ∧
      (∀ (acc : List (Key × D)) (m' : Mem), Iv ds.length acc m' → Q (.dic acc) m')) : EW K (tDc wi g tt tk tv vs) δ m Q := fun σ H s M QQ k =>
  h σ H s M _ fun J H1 m1 ds ⟨Iv, h0, hs, hd⟩ s1 M1 fe => by
    intro z hz
    have base : Sub (hide m1 H1) (hide (m1 ++ [(z, .dic [])]) (upd H1 z (.dK []))) := by
      rw [hide_cell hz]
      exact Sub.refl _
    refine ⟨fun i n H' => n = ds.length - i ∧ i ≤ ds.length ∧ ∃ acc m', Iv i acc m' ∧ Sub (hide m1 H1) (hide (m' ++ [(z, .dic acc)]) H') ∧ MemOk K (m' ++ [(z, .dic acc)]) H', ⟨ds.length, rfl, Nat.zero_le _, [], m1, h0, base, M1.cell (c := .dic []) hz ⟨[], upd_same, rfl, .nil⟩⟩, ?_⟩
    rintro i n H' ⟨rfl, hi, acc, m', hI, s2, M2⟩
    by_cases hlt : i < ds.length
    · refine .inr ⟨fe.go i _ H' s2 M2 hlt, fun H3 => ∃ acc m3, Iv (i + 1) acc m3 ∧ Sub (hide m1 H1) (hide (m3 ++ [(z, .dic acc)]) H3) ∧ MemOk K (m3 ++ [(z, .dic acc)]) H3, fun H3 q => ⟨ds.length - (i + 1), by omega, rfl, hlt, q⟩, fun x H3 y => ?_⟩
      have hdi : ds[i]? = some ds[i] := List.getElem?_eq_getElem hlt
      obtain ⟨s3, M3, r3⟩ := fe.yld i _ H' x H3 _ s2 M2 hdi y
      obtain ⟨hl, step⟩ := hs i _ acc m' z hdi hI
      have sb : Sub (hide m H) (hide (m' ++ [(z, .dic acc)]) H3) := s1.trans (s2.trans s3)
      refine tm x σ (wipe σ vs) H3 _ (wipe_idem σ vs) ?_
      refine step (wipe σ vs) H3 x ((s.mono sb).wipe vs) M3 r3 _ fun δ4 m4 σ4 H4 q4 s4 S4 M4 => ?_
      refine q4 σ4 H4 S4 M4 _ fun b m5 H5 q5 s5 M5 => ?_
      cases b with
      | true =>
        have q5' : EW K tk δ4 m5 fun y m4 => EW K tv δ4 m4 fun x m5 => ∃ (k : Key) (m6 : Mem), y = kD k ∧ m5 = m6 ++ [(z, .dic acc)] ∧ Iv (i + 1) (putD acc k x) m6 := q5
        refine q5' σ4 H5 (S4.mono s5) M5 _ fun yd m6 yv H6 q6 s6 M6 r6 => ?_
        refine q6 σ4 H6 (S4.mono (s5.trans s6)) M6 _ fun xd m7 xv H7 q7 s7 M7 r7 => ?_
        obtain ⟨kk, m8, ek, e8, hI8⟩ := q7
        subst ek
        subst e8
        have ev := kD_v r6
        subst ev
        have hm : (m8 ++ [(z, Cell.dic acc)])[m8.length]? = some (z, Cell.dic acc) := by simp
        obtain ⟨xs, ex, nx, rx⟩ := dicM_at M7 hm
        have es : (m8 ++ [(z, Cell.dic acc)]).set m8.length (z, Cell.dic (putD acc kk xd)) = m8 ++ [(z, Cell.dic (putD acc kk xd))] := by
          rw [List.set_append_right _ _ (Nat.le_refl _), Nat.sub_self]
          rfl
        have eh : hide (m8 ++ [(z, Cell.dic (putD acc kk xd))]) (upd H7 z (.dK (putK xs kk xv))) = hide (m8 ++ [(z, Cell.dic acc)]) H7 := by
          rw [← es]
          exact hide_set hm
        obtain ⟨na, nb⟩ := putD_rel (k := kk) r7 nx rx
        refine ⟨xs, kk, rfl, ex, by have e1 : xs.length = acc.length := by simpa using congrArg List.length nx
                                    rw [e1]; exact hl, putD acc kk xd, m8, hI8, ?_, ?_⟩
        · rw [eh]
          exact s2.trans (s3.trans (s4.trans (s5.trans (s6.trans s7))))
        · rw [← es]
          exact M7.set hm ⟨_, upd_same, na, nb⟩
      | false =>
        have q5' : ∃ m6, m5 = m6 ++ [(z, .dic acc)] ∧ Iv (i + 1) acc m6 := q5
        obtain ⟨m7, e7, hI7⟩ := q5'
        subst e7
        exact ⟨acc, m7, hI7, s2.trans (s3.trans (s4.trans s5)), M5⟩
    · have e : i = ds.length := by omega
      subst e
      refine .inl ⟨fe.stop _ H' s2 M2, ?_⟩
      obtain ⟨M3, sb, hp⟩ := M2.drop
      exact k (.dic acc) m' (.ref z) H' (hd acc m' hI) (s1.trans (s2.trans sb)) M3 (still_of (d := .dic acc) (M2.at_ z (.dic acc) (by simp)) rfl sb hp)
/-- {k: v}, written, one entry, a cell -/
theorem ew_disp1M {tk tv : TE} (h : ∀ p, EW K tk δ (m ++ [(p, .dic [])]) fun y m1 => EW K tv δ m1 fun x m2 => ∃ (k : Key) (m3 : Mem), y = kD k ∧ m2 = m3 ++ [(p, .dic [])] ∧ Q (.adr p) (m3 ++ [(p, .dic [(k, x)])])) : EW K (tDisp [(tk, tv)]) δ m Q := fun σ H s M QQ k => fun p hp => by
  have e : hide (m ++ [(p, Cell.dic [])]) (upd H p (.dK [])) = hide m H := hide_cell hp
  have M1 : MemOk K (m ++ [(p, Cell.dic [])]) (upd H p (.dK [])) := M.cell (c := .dic []) hp ⟨[], upd_same, rfl, .nil⟩
  have s1 : Sub (hide m H) (hide (m ++ [(p, Cell.dic [])]) (upd H p (.dK []))) := by rw [e]; exact Sub.refl _
  show tk σ (upd H p (.dK [])) fun k1 H1 => tv σ H1 fun v1 H2 => tPairs [] σ H2 fun ps H3 => H3 p = some (.dK []) ∧ ∃ kvs : List (Key × V), (k1, v1) :: ps = kvs.map (fun kv => (kV kv.1, kv.2)) ∧ kvs.length ≤ 15 ∧ QQ (.ref p) (upd H3 p (.dK (mergeK [] kvs)))
  refine h p σ _ (s.mono s1) M1 _ fun yd m2 yv H2 q2 s2 M2 r2 => ?_
  refine q2 σ H2 (s.mono (s1.trans s2)) M2 _ fun xd m3 xv H3 ⟨kk, m4, ek, em, q⟩ s3 M3 r3 => ?_
  subst ek
  subst em
  have ev := kD_v r2
  subst ev
  have hm : (m4 ++ [(p, Cell.dic [])])[m4.length]? = some (p, Cell.dic []) := by simp
  obtain ⟨xs, ex, nx, rx⟩ := dicM_at M3 hm
  have e0 : xs = [] := by
    cases xs with
    | nil => rfl
    | cons => simp at nx
  subst e0
  have es : (m4 ++ [(p, Cell.dic [])]).set m4.length (p, Cell.dic [(kk, xd)]) = m4 ++ [(p, Cell.dic [(kk, xd)])] := by
    rw [List.set_append_right _ _ (Nat.le_refl _), Nat.sub_self]
    rfl
  obtain ⟨M5, s5⟩ := set_cell (c' := .dic [(kk, xd)]) (o := .dK [(kk, xv)]) M3 hm ⟨[(kk, xv)], upd_same, rfl, .cons r3 .nil⟩
  rw [es] at M5 s5
  exact ⟨ex, [(kk, xv)], rfl, by simp, k (.adr p) _ (.ref p) _ q (s1.trans (s2.trans (s3.trans s5))) M5 (.adr p)⟩
end
end DL

set_option Elab.async false
set_option linter.all false
set_option maxRecDepth 100000
set_option maxHeartbeats 1000000
set_option autoImplicit false
namespace DL
open PySem PySem.Spec PyProof.Rows L2
/-! ### the rules, with the written part by its own name -/
section
variable {X : Cx} (K : PySem.W.Frag) (hK : X.K = K)
include hK
theorem kx_ix (hu : X.A.units + 64 < cLine) : IxR X (rIxU K) := by subst hK; exact ix_U hu
theorem kx_sl : SlR X (rSlU K) := by subst hK; exact sl_U
theorem kx_eq (hu : X.A.units + 64 < cLine) : OpR X (compareOp .Eq) (rEqD K) := by subst hK; exact op_eqD hu
theorem kx_ne (hu : X.A.units + 64 < cLine) : OpR X (compareOp .NotEq) (rNeD K) := by subst hK; exact op_neD hu
theorem kx_in (P : Program) (w : World) (hP : X.prog = P) (hw : X.w = w) (hu : X.A.units + 64 < cLine) : OpR X (compareOp .In) (rInU P w K) := by subst hK; subst hP; subst hw; exact op_inU hu
theorem kx_notIn (P : Program) (w : World) (hP : X.prog = P) (hw : X.w = w) (hu : X.A.units + 64 < cLine) : OpR X (compareOp .NotIn) (rNotInU P w K) := by subst hK; subst hP; subst hw; exact op_notInU hu
theorem kx_len : CallR X (.builtin "len") (rLenU K) := by subst hK; exact cr_lenU
theorem kx_list : CallR X (.type "list") (rListU K) := by subst hK; exact cr_listU
theorem kx_all (hc : X.calm = true) : CallR X (.builtin "all") (rAll K) := by subst hK; exact cr_all hc
theorem kx_isi : CallR X (.builtin "isinstance") (rIsi K) := by subst hK; exact call_isi
theorem kx_index (hu : X.A.units + 65 < cLine) : MtR X "list.index" (rIndexD K) := by subst hK; exact mt_indexD hu
def rJoin (K : PySem.W.Frag) : V → List V → Hp → VK → Prop := fun v xs H Q => ∃ a p, ∃ ys : List Str, v = .str a ∧ xs = [.ref p] ∧ (SqL K H p (ys.map V.str) ∨ SqT K H p (ys.map V.str)) ∧ (ys.map (·.length)).sum + ys.length * a.length ≤ 16777216 ∧ Q (.str (Txt.join a ys)) H
theorem kx_join : MtR X "str.join" (rJoin K) := by subst hK; exact mt_join
theorem kx_pi {tg l : Expr} {tl : TE} (hl : PE X l tl) : PI X tg l (iAny K tl) := by subst hK; exact pi_any hl
theorem kx_enum {e : Expr} {ta : TA} {p pos tpos : Pos} {elts : List Expr} {kk : Nat} (hg : Gl X "enumerate") (hm : X.mg "enumerate" = none) (ha : PA X [e] ta) (hs : starEach [e] X.env = [(false, eval e X.env)] := by rfl) :
    PI X (.Tuple elts kk tpos) (.Call (.Name "enumerate" p) [e] [] pos) (iEnum K ta) := by subst hK; exact pi_enum hg hm ha hs
theorem kx_revL {e : Expr} {te : TE} {k : Nat} {p1 p2 p3 pos : Pos} (he : PE X e te) : PE X (.Subscript e (.Slice none none (some (.UnaryOp .USub (.Constant (.int 1) k p1) p2)) p3) pos) (tRevL K te) := by subst hK; exact pe_revL he
theorem kx_fld {e : Expr} {ta : TE} {f : Str} {pos : Pos} (ha : PE X e ta) (hb : attributeBase e f X.env (eval e X.env) = eval e X.env := by rfl) : PE X (.Attribute e f pos) (tFld K ta f) := by subst hK; exact pe_fld ha hb
theorem kx_set {o e : Expr} {ta tv : TE} {f : Str} {apos pos : Pos} (ha : PE X o ta) (hv : PE X e tv) (hs : swapsWith e (some (.Attribute o f apos)) pos.line X.env = pure false := by rfl) : PS X (.Assign [.Attribute o f apos] e pos) (sFld K ta tv f) := by subst hK; exact ps_fld ha hv hs
theorem kx_bm {T name : String} {id : String} {r : V → List V → Hp → VK → Prop} {o e : Expr} {es : List Expr} {to : TE} {t : TA} {apos cpos : Pos} (pa : PlainAttrs T) (slot : Slot T name id) (hty : typeOf (.builtin id) = pure (.type "method_descriptor")) (hm : MtR X id r) (ho : PE X o to) (ha : PA X (e :: es) t)
    (hbase : attributeBase o name X.env (eval o X.env) = eval o X.env := by rfl)
    (hfew : ((backTo cpos (starEach (e :: es) X.env)).all (fun x => !x.1) && (backToKw cpos (keywordEach [] X.env)).all (fun x => x.1.isSome)
      && decide ((e :: es).length + ([] : List Keyword).length + (if ([] : List Keyword).isEmpty then 0 else 1) < 30)) = true := by rfl)
    (hline : (apos.endLine == cpos.line) = true := by rfl) (hs : starEach (e :: es) X.env = (false, eval e X.env) :: starEach es X.env := by rfl) (hplain : (backTo cpos (starEach es X.env)).any (·.1) = false := by rfl) :
    PE X (.Call (.Attribute o name apos) (e :: es) [] cpos) (tBM K T r to t) := by subst hK; exact pe_bm pa slot hty hm ho ha hbase hfew hline hs hplain
theorem kx_bm0 {T name : String} {id : String} {r : V → List V → Hp → VK → Prop} {o : Expr} {to : TE} {apos cpos : Pos} (pa : PlainAttrs T) (slot : Slot T name id) (hty : typeOf (.builtin id) = pure (.type "method_descriptor")) (hm : MtR X id r) (ho : PE X o to)
    (hbase : attributeBase o name X.env (eval o X.env) = eval o X.env := by rfl) (hline : (apos.endLine == cpos.line) = true := by rfl) : PE X (.Call (.Attribute o name apos) [] [] cpos) (tBM0 K T r to) := by subst hK; exact pe_bm0 pa slot hty hm ho hbase hline
theorem kx_tup {es : List Expr} {kk : Nat} {pos : Pos} {t : TGs} {n : Nat} (hc : X.calm = true) (h : PGs X es t) (hn : (assignEach es X.env).length = n := by rfl) (hst : (assignEach es X.env).findIdx? (·.1) = none := by rfl) : PG X (.Tuple es kk pos) (gTup K n t) := by subst hK; exact pg_tup hc h hn hst
theorem kx_set0 (P : Program) (w : World) (hP : X.prog = P) (hw : X.w = w) : CallR X (.type "set") (rSet0K P w) := by subst hP; subst hw; exact cr_set0K
theorem kx_sadd {o e : Expr} {es : List Expr} {to : TE} {t : TA} {apos cpos : Pos} (P : Program) (w : World) (hP : X.prog = P) (hw : X.w = w) (ho : PE X o to) (ha : PA X (e :: es) t)
    (h1 : attributeBase o "add" X.env (eval o X.env) = eval o X.env := by rfl)
    (h2 : ((backTo cpos (starEach (e :: es) X.env)).all (fun x => !x.1) && (backToKw cpos (keywordEach [] X.env)).all (fun x => x.1.isSome)
      && decide ((e :: es).length + ([] : List Keyword).length + (if ([] : List Keyword).isEmpty then 0 else 1) < 30)) = true := by rfl)
    (h3 : (apos.endLine == cpos.line) = true := by rfl) (h4 : starEach (e :: es) X.env = (false, eval e X.env) :: starEach es X.env := by rfl) (h5 : (backTo cpos (starEach es X.env)).any (·.1) = false := by rfl) :
    PE X (.Call (.Attribute o "add" apos) (e :: es) [] cpos) (tSAddK P w to t) := by subst hP; subst hw; exact pe_saddK ho ha h1 h2 h3 h4 h5
section
variable {k : Nat} {f C : Addr} {ps : List Str} {Pf : FS} {x : Str} {p pos : Pos} {e : Expr} {es : List Expr} {t : TA} {ta : TE}
theorem kx_def (D : Def X.prog X.w X.K X.mg X.base k f ps Pf) (hr : Room k X.A) (hg : Gl X x) (hm : X.mg x = some (.ref f)) (hk : PySem.W.keepIn X.K (.ref f) = true) (ha : PA X (e :: es) t)
    (hdb : (x == ("__debug__" : Str)) = false := by decide) (he : starEach (e :: es) X.env = (false, eval e X.env) :: starEach es X.env := by rfl) (hpl : (backTo pos (starEach es X.env)).any (·.1) = false := by rfl) :
    PE X (.Call (.Name x p) (e :: es) [] pos) (tCall (spOf K Pf) [] E0 t) := by subst hK; exact pe_def D hr hg hm hk ha hdb he hpl
theorem kx_def0 (D : Def X.prog X.w X.K X.mg X.base k f ps Pf) (hr : Room k X.A) (hg : Gl X x) (hm : X.mg x = some (.ref f)) (hk : PySem.W.keepIn X.K (.ref f) = true) (hdb : (x == ("__debug__" : Str)) = false := by decide) :
    PE X (.Call (.Name x p) [] [] pos) (tCall (spOf K Pf) [] E0 tNil) := by subst hK; exact pe_def0 D hr hg hm hk hdb
theorem kx_defG (hg0 : X.A.guards = some []) (D : DefG X.prog X.w X.K X.mg X.base k f ps Pf) (hr : Room k X.A) (hg : Gl X x) (hm : X.mg x = some (.ref f)) (hk : PySem.W.keepIn X.K (.ref f) = true) (ha : PA X (e :: es) t)
    (hdb : (x == ("__debug__" : Str)) = false := by decide) (he : starEach (e :: es) X.env = (false, eval e X.env) :: starEach es X.env := by rfl) (hpl : (backTo pos (starEach es X.env)).any (·.1) = false := by rfl) :
    PE X (.Call (.Name x p) (e :: es) [] pos) (tCall (spOf K Pf) [] E0 t) := by subst hK; exact pe_defG hg0 D hr hg hm hk ha hdb he hpl
theorem kx_prop {nm : Str} (he : PE X e ta) (c : Cls X.K C) (hp : ∃ q, PropOf X.K C nm q f) (D : Def X.prog X.w X.K X.mg X.base k f ps Pf) (hr : Room (k + 1) X.A) (hab : attributeBase e nm X.env (eval e X.env) = eval e X.env) :
    PE X (.Attribute e nm pos) (tProp C (spOf K Pf) [] E0 ta) := by subst hK; exact pe_propD he c hp D hr hab
theorem kx_meth {nm : Str} {apos : Pos} {pl : Sem Bool} {o : Expr} (he : PE X o ta) (c : Cls X.K C) (hm : Meth X.K C nm f) (D : Def X.prog X.w X.K X.mg X.base k f ps Pf) (hr : Room k X.A) (ha : PA X (e :: es) t)
    (hst : starEach (e :: es) X.env = (false, eval e X.env) :: starEach es X.env := by rfl) (hpl : (backTo pos (starEach es X.env)).any (·.1) = false := by rfl)
    (ht : eval (.Call (.Attribute o nm apos) (e :: es) [] pos) X.env = (do
      let ov ← eval o X.env
      standAt apos.atName
      let (f, first) ← holding [ov] (getMethod ov nm pl)
      callWith pos f first (backTo pos (starEach (e :: es) X.env)) (backToKw pos (keywordEach [] X.env))) := by rfl) :
    PE X (.Call (.Attribute o nm apos) (e :: es) [] pos) (tMeth C nm (spOf K Pf) [] E0 ta t) := by subst hK; exact pe_methD he c hm D hr ha hst hpl ht
theorem kx_lenOwn (hs : PySem.W.findIn X.K (.ref C) "__len__" = some (some (.ref f)) ∧ PySem.W.isFn X.K (.ref f) = true) (D : Def X.prog X.w X.K X.mg X.base k f ps Pf) (hr : Room (k + 1) X.A) : CallR X (.builtin "len") (rLenOwn C (spOf K Pf)) := by subst hK; exact cr_lenOwn hs D hr
/-- C(e, ..), every parameter given -/
theorem kx_make (M : Mk X.K C f) (D : Def X.prog X.w X.K X.mg X.base k f ps Pf) (hr : Room (k + 1) X.A) (hg : Gl X x) (hm : X.mg x = some (.ref C)) (ha : PA X (e :: es) t)
    (hdb : (x == ("__debug__" : Str)) = false := by decide) (he : starEach (e :: es) X.env = (false, eval e X.env) :: starEach es X.env := by rfl) (hpl : (backTo pos (starEach es X.env)).any (·.1) = false := by rfl) :
    PE X (.Call (.Name x p) (e :: es) [] pos) (tMake C (spOf K Pf) [] E0 t) := by
  subst hK
  obtain ⟨fd, F, b, _⟩ := D
  exact pe_make M F hr hg hm b .nil pass0 ha hdb he hpl
end
end
end DL

set_option Elab.async false
set_option linter.all false
set_option maxRecDepth 100000
set_option maxHeartbeats 1000000
set_option autoImplicit false
namespace DL
open PySem PySem.Spec PyProof.Rows L2
theorem iteD {c : Prop} [Decidable c] {A B : Prop} (h1 : c → A) (h2 : ¬ c → B) : if decide c = true then A else B := by
  by_cases h : c
  · rw [decide_eq_true h, if_pos rfl]; exact h1 h
  · rw [decide_eq_false h, if_neg Bool.false_ne_true]; exact h2 h
theorem iteN {c : Prop} [Decidable c] {A B : Prop} (h1 : ¬ c → A) (h2 : c → B) : if (!decide c) = true then A else B := by
  by_cases h : c
  · rw [decide_eq_true h]; exact h2 h
  · rw [decide_eq_false h]; exact h1 h
theorem iteB {b : Bool} {A B : Prop} (h1 : b = true → A) (h2 : b = false → B) : if b = true then A else B := by
  cases b
  · exact h2 rfl
  · exact h1 rfl
/-! ### the walk over a reading: one step; a choice is left to whoever calls -/
local macro_rules | `(tactic| walk_at "s1") => `(tactic| with_reducible first
  | refine sw_seq ?_ | refine sw_next ?_ | refine sw_ret ?_ | refine sw_retN ?_ | refine sw_if ?_ | refine sw_asg ?_ | refine sw_asgG ?_ | refine sw_drop ?_ | refine sw_break ?_ | refine sw_cont ?_ | refine sw_par ?_ | refine sw_par3 ?_
  | refine tw_test ?_ | refine tw_B ?_ | refine tw_and ?_ | refine tw_or ?_ | refine tw_not ?_
  | refine ew_op ?_ | refine ew_un ?_ | refine ew_int ?_ | refine ew_non ?_ | refine ew_bl ?_ | refine ew_str ?_ | refine ew_ty ?_ | refine ew_ref ?_ | refine ew_cb ?_ | refine ew_if ?_ | refine ew_andV ?_ | refine ew_orV ?_ | refine ew_notV ?_ | refine ew_chain ?_ | refine ew_sl ?_ | refine pw_no ?_ | refine pw_part ?_
  | refine aw_nil ?_ | refine aw_cons ?_ | refine ew_bm ?_ | refine ew_bm0 ?_ | refine gw_setL ?_
  | refine gs_nil ?_ | refine gs_cons ?_ | refine gw_name ?_
  | refine ow_addI ?_ | refine ow_i0 ?_ | refine ow_b0 ?_ | refine ow_eqI ?_ | refine ow_neI ?_ | refine ow_isN ?_ | refine ow_notN ?_ | refine uw_neg ?_ | refine cw_int ?_ | refine cw_intB ?_ | refine cw_abs ?_ | refine cw_mx2 ?_ | refine cw_mn2 ?_)
local macro_rules | `(tactic| walk_at "s2") => `(tactic| first
  | (refine ew_var (by rfl) ?_)
  | (refine ⟨_, rfl, ?_⟩)
  | (refine ⟨_, _, rfl, ?_⟩)
  | (refine ⟨_, _, _, rfl, ?_⟩))
local macro_rules | `(tactic| walk_at "s") => `(tactic| repeat (first | walk_at "s1" | walk_at "s2"))
end DL

set_option Elab.async false
set_option linter.all false
set_option maxRecDepth 100000
set_option maxHeartbeats 1000000
set_option autoImplicit false
/-! Cells looked up and written by their addresses; == of data without booleans; what is shown. -/
namespace DL
open PySem PySem.Spec PyProof.Rows L2
theorem lt_sz {n : Nat} (h : n < 16777216) : n < sizeLine := h
theorem le_sz {n : Nat} (h : n ≤ 16777216) : n ≤ sizeLine := h
/-- at p stands c -/
def MAt (m : Mem) (p : Addr) (c : Cell) : Prop := ∃ i : Nat, m[i]? = some (p, c)
/-- at p stands c; written with c' it is m' -/
def MUp (m : Mem) (p : Addr) (c c' : Cell) (m' : Mem) : Prop := ∃ i : Nat, m[i]? = some (p, c) ∧ m' = m.set i (p, c')
section
variable {m m' l : Mem} {p : Addr} {c c' : Cell} {x : Addr × Cell}
theorem MAt.zero : MAt ((p, c) :: l) p c := ⟨0, rfl⟩
theorem MAt.cons (h : MAt l p c) : MAt (x :: l) p c := let ⟨i, h⟩ := h; ⟨i + 1, by simpa using h⟩
theorem MAt.last : MAt (l ++ [(p, c)]) p c := ⟨l.length, by simp⟩
theorem MAt.app {r : Mem} (h : MAt l p c) : MAt (l ++ r) p c := let ⟨i, h⟩ := h; ⟨i, by rw [List.getElem?_append_left (by have := List.getElem?_eq_some_iff.mp h; exact this.1)]; exact h⟩
theorem MUp.zero : MUp ((p, c) :: l) p c c' ((p, c') :: l) := ⟨0, rfl, rfl⟩
theorem MUp.cons (h : MUp l p c c' m') : MUp (x :: l) p c c' (x :: m') := let ⟨i, h, e⟩ := h; ⟨i + 1, by simpa using h, by rw [e]; rfl⟩
theorem MUp.last : MUp (l ++ [(p, c)]) p c c' (l ++ [(p, c')]) := ⟨l.length, by simp, by rw [List.set_append_right _ _ (Nat.le_refl _), Nat.sub_self]; rfl⟩
theorem MUp.app {r : Mem} (h : MUp l p c c' m') : MUp (l ++ r) p c c' (m' ++ r) := let ⟨i, h, e⟩ := h; by
  have hi : i < l.length := (List.getElem?_eq_some_iff.mp h).1
  exact ⟨i, by rw [List.getElem?_append_left hi]; exact h, by rw [e, List.set_append_left _ _ hi]⟩
end
section
variable {K : PySem.W.Frag} {δ : List (Option D)} {m : Mem} {Q : D → Mem → Prop} {te ta tb tc : TE} {p : Addr} {ds : List D}
theorem oi_L {i : Int} {d : D} (h : L2.atI ds i = some d) (q : Q d m) : OW K (rIxU K) (.lst ds) (.int i) m Q := ow_ixL h q
theorem oi_M {i : Int} {d : D} (hm : MAt m p (.lst ds)) (h : L2.atI ds i = some d) (q : Q d m) : OW K (rIxU K) (.adr p) (.int i) m Q := let ⟨_, hm⟩ := hm; ow_ixM hm h q
theorem cl_M (hm : MAt m p (.lst ds)) (q : Q (.int (ds.length : Nat)) m) : CW K (rLenU K) [.adr p] m Q := let ⟨_, hm⟩ := hm; cw_lenM hm q
theorem ci_M (hm : MAt m p (.lst ds)) (q : Q (.lst ds) m) : CW K (rListU K) [.adr p] m Q := let ⟨_, hm⟩ := hm; cw_listM hm q
theorem ma_app {d : D} {m' : Mem} (hm : MUp m p (.lst ds) (.lst (ds ++ [d])) m') (hl : ds.length < sizeLine) (q : Q .non m') : MW K rAppend (.adr p) [d] m Q := let ⟨_, hm, e⟩ := hm; mw_append hm hl (e ▸ q)
theorem ma_clr {m' : Mem} (hm : MUp m p (.lst ds) (.lst []) m') (q : Q .non m') : MW K rClear (.adr p) [] m Q := let ⟨_, hm, e⟩ := hm; mw_clear hm (e ▸ q)
theorem ty_A (hm : MAt m p (.lst ds)) : ∀ (H : Hp) (v : V), MemOk K m H → Rd K (hide m H) v (.adr p) → tyV K "list" v H := let ⟨_, hm⟩ := hm; ty_M hm
theorem tyM {d : D} {T : String} (h : ∀ (H : Hp) (v : V), MemOk K m H → Rd K (hide m H) v d → tyV K T v H) : ∀ (H : Hp) (v : V), MemOk K m H → Rd K (hide m H) v d → tyV K T v H := h
theorem gs_L {d : D} {R : List (Option D) → Mem → Prop} (h : EW K ta δ m fun x m1 => EW K tb δ m1 fun y m2 => ∃ p ds n j m3, x = .adr p ∧ y = .int n ∧ MUp m2 p (.lst ds) (.lst (ds.set j d)) m3 ∧ ixN ds.length n = some j ∧ R δ m3) : GW K (gSub ta tb rSetL) d δ m R :=
  gw_setL (fun σ H s M QQ k => h σ H s M QQ fun x m1 v H1 q s1 M1 r1 => k x m1 v H1 (fun σ H s M QQ k => q σ H s M QQ fun y m2 v H2 ⟨p, ds, n, j, m3, ex, ey, ⟨i, hm, em⟩, hj, q⟩ s2 M2 r2 => k y m2 v H2 ⟨i, p, ds, n, j, ex, ey, hm, hj, em ▸ q⟩ s2 M2 r2) s1 M1 r1)
end
/-! ### == of data without booleans -/
def D.nb : Nat → D → Bool
  | _, .non => true
  | _, .int _ => true
  | _, .str x => PyData.strOk x
  | n + 1, .lst xs => xs.all (D.nb n)
  | n + 1, .tup xs => xs.all (D.nb n)
  | _, _ => false
theorem nb_fl : ∀ (n : Nat) (d : D), d.nb n = true → d.fl n = true := by
  intro n
  induction n with
  | zero => intro d h; cases d <;> simp_all [D.nb, D.fl]
  | succ n ih =>
    have all : ∀ ds : List D, ds.all (D.nb n) = true → ds.all (D.fl n) = true := by
      intro ds h
      rw [List.all_eq_true] at h ⊢
      exact fun d hd => ih d (h d hd)
    intro d h
    cases d with
    | lst xs => exact all xs h
    | tup xs => exact all xs h
    | _ => simp_all [D.nb, D.fl]
theorem eqv_nb : ∀ (n : Nat) (d e : D), d.nb n = true → e.nb n = true → (PyData.eqv d.py e.py = true ↔ d = e) := by
  intro n
  induction n with
  | zero =>
    intro d e h h'
    cases d <;> cases e <;> simp_all [D.nb, D.py, PyData.eqv]
  | succ n ih =>
    have all : ∀ ds es : List D, ds.all (D.nb n) = true → es.all (D.nb n) = true → (PyData.eqvAll (D.pyL ds) (D.pyL es) = true ↔ ds = es) := by
      intro ds
      induction ds with
      | nil => intro es _ _; cases es <;> simp [D.pyL, PyData.eqvAll]
      | cons d ds ihl =>
        intro es h h'
        cases es with
        | nil => simp [D.pyL, PyData.eqvAll]
        | cons e es =>
          rw [List.all_cons, Bool.and_eq_true] at h h'
          simp only [D.pyL, PyData.eqvAll, Bool.and_eq_true, List.cons.injEq, ih d e h.1 h'.1, ihl es h.2 h'.2]
    intro d e h h'
    cases d with
    | lst xs =>
      cases e with
      | lst ys => simpa only [D.py, PyData.eqv, D.lst.injEq] using all xs ys h h'
      | _ => simp_all [D.nb, D.py, PyData.eqv]
    | tup xs =>
      cases e with
      | tup ys => simpa only [D.py, PyData.eqv, D.tup.injEq] using all xs ys h h'
      | _ => simp_all [D.nb, D.py, PyData.eqv]
    | _ => cases e <;> simp_all [D.nb, D.py, PyData.eqv]
def rEqU (K : PySem.W.Frag) : R2 := fun x y H Q => rEqD K x y H Q ∨ rEq x y H Q
def rNeU (K : PySem.W.Frag) : R2 := fun x y H Q => rNeD K x y H Q ∨ rNe x y H Q
section
variable {X : Cx} (K : PySem.W.Frag) (hK : X.K = K)
include hK
theorem kx_eqU (hu : X.A.units + 64 < cLine) : OpR X (compareOp .Eq) (rEqU K) := by subst hK; exact OpR.or (op_eqD hu) op_eq
theorem kx_neU (hu : X.A.units + 64 < cLine) : OpR X (compareOp .NotEq) (rNeU K) := by subst hK; exact OpR.or (op_neD hu) op_ne
end
section
variable {K : PySem.W.Frag} {δ : List (Option D)} {m : Mem} {Q : D → Mem → Prop}
theorem oq_eqI {i j : Int} (q : Q (.bl (decide (i = j))) m) : OW K (rEqU K) (.int i) (.int j) m Q := ow_or1 (ow_eqI q)
theorem oq_neI {i j : Int} (q : Q (.bl (!decide (i = j))) m) : OW K (rNeU K) (.int i) (.int j) m Q := ow_or1 (ow_neI q)
theorem oq_eqS {i j : Str} (q : Q (.bl (decide (i = j))) m) : OW K (rEqU K) (.str i) (.str j) m Q := ow_or2 fun H v w M a b QQ k => by
  cases a
  cases b
  exact ⟨rfl, k _ m _ H q (Sub.refl _) M (by have : decide (V.str i = V.str j) = decide (i = j) := by simp
                                             first | (rw [this]; exact .bl _) | exact .bl _)⟩
theorem oq_neS {i j : Str} (q : Q (.bl (!decide (i = j))) m) : OW K (rNeU K) (.str i) (.str j) m Q := ow_or2 fun H v w M a b QQ k => by
  cases a
  cases b
  exact ⟨rfl, k _ m _ H q (Sub.refl _) M (by have : decide (V.str i = V.str j) = decide (i = j) := by simp
                                             first | (rw [this]; exact .bl _) | exact .bl _)⟩
theorem oq_eq (n : Nat) {x y : D} (hx : x.nb n = true) (hy : y.nb n = true) (q : ∀ b : Bool, (b = true ↔ x = y) → Q (.bl b) m) (hn : n ≤ 64 := by decide) : OW K (rEqU K) x y m Q :=
  ow_or1 (ow_eq hn (nb_fl n x hx) (nb_fl n y hy) (q _ (eqv_nb n x y hx hy)))
theorem oq_ne (n : Nat) {x y : D} (hx : x.nb n = true) (hy : y.nb n = true) (q : ∀ b : Bool, (b = true ↔ x = y) → Q (.bl (!b)) m) (hn : n ≤ 64 := by decide) : OW K (rNeU K) x y m Q :=
  ow_or1 (ow_ne hn (nb_fl n x hx) (nb_fl n y hy) (q _ (eqv_nb n x y hx hy)))
end
/-! ### what is shown -/
def rRepr (K : PySem.W.Frag) : List V → Hp → VK → Prop := fun xs H Q => ∃ a d, xs = [V.ref a] ∧ Dp K H (.ref a) d ∧ d.showable = true ∧ d.hasDict = false ∧ d.depth ≤ 64 ∧ d.shown.length ≤ sizeLine ∧ Q (.str d.shown) H
theorem cr_repr {X : Cx} (hg : X.A.guards = some []) (hu : X.A.units + 66 < cLine) : CallR X (.builtin "repr") (rRepr X.K) := by
  intro pins s σ H xs us Q I rv h
  obtain ⟨a, d, rfl, hd, h1, h2, h3, h4, q⟩ := h
  cases rv with
  | cons r0 r1 =>
    cases r1
    obtain rfl := show _ = Value.ref a from r0
    obtain ⟨as, r⟩ := Dp.reads I d _ _ hd rfl
    exact repr_of_reads' r h1 (fun z => by rw [h2] at z; cases z) hg (by omega) (fun _ _ e => e) (fun h' u tk k => ⟨.str d.shown, H, I.kept k, ⟨_, rfl⟩, q⟩) h4
theorem kx_repr {X : Cx} (K : PySem.W.Frag) (hK : X.K = K) (hg : X.A.guards = some []) (hu : X.A.units + 66 < cLine) : CallR X (.builtin "repr") (rRepr K) := by subst hK; exact cr_repr hg hu
/-- in the memory m the data x, its cells looked through, are d -/
def Res (K : PySem.W.Frag) (m : Mem) (x : D) (d : PyData) : Prop := ∀ (H : Hp) (v : V), MemOk K m H → Rd K (hide m H) v x → Dp K H v d
def ResL (K : PySem.W.Frag) (m : Mem) (x : List D) (d : List PyData) : Prop := ∀ (H : Hp) (v : List V), MemOk K m H → RdL K (hide m H) v x → DpAll K H v d
section
variable {K : PySem.W.Frag} {δ : List (Option D)} {m : Mem} {Q : D → Mem → Prop}
theorem Res.fl {n : Nat} {x : D} (h : x.fl n = true) : Res K m x x.py := fun H v M r => Rd.dp n x v h r.top
theorem ResL.nil : ResL K m [] [] := fun H v M r => by cases r; exact .nil
theorem ResL.cons {x : D} {d : PyData} {xs : List D} {ds : List PyData} (h : Res K m x d) (h' : ResL K m xs ds) : ResL K m (x :: xs) (d :: ds) := fun H v M r => by
  cases r with
  | cons a b => exact .cons (h H _ M a) (h' H _ M b)
theorem Res.lst {xs : List D} {ds : List PyData} (h : ResL K m xs ds) : Res K m (.lst xs) (.list ds) := fun H v M r => by
  obtain ⟨p, vs, rfl, e, r⟩ := lst_at r
  exact .lst (SqL.of e) (h H vs M r)
theorem Res.tup {xs : List D} {ds : List PyData} (h : ResL K m xs ds) : Res K m (.tup xs) (.tuple ds) := fun H v M r => by
  obtain ⟨p, vs, rfl, e, r⟩ := tup_at r
  exact .tup e (h H vs M r)
theorem Res.adr {p : Addr} {xs : List D} {ds : List PyData} (hm : MAt m p (.lst xs)) (h : ResL K m xs ds) : Res K m (.adr p) (.list ds) := fun H v M r => by
  cases r
  obtain ⟨i, hm⟩ := hm
  obtain ⟨vs, e, r⟩ := cell_at M hm
  exact .lst (SqL.of e) (h H vs M r)
/-- what is shown -/
theorem cw_repr {x : D} {d : PyData} (h : Res K m x d) (hx : (∃ xs, x = .lst xs) ∨ (∃ xs, x = .tup xs) ∨ ∃ p, x = .adr p) (h1 : d.showable = true) (h2 : d.hasDict = false) (h3 : d.depth ≤ 64) (h4 : d.shown.length ≤ sizeLine) (q : Q (.str d.shown) m) : CW K (rRepr K) [x] m Q := fun H vs M a QQ k => by
  cases a with
  | cons a b =>
    cases b
    have g := h H _ M a
    have ha : ∃ z, ‹V› = V.ref z := by
      rcases hx with ⟨_, rfl⟩ | ⟨_, rfl⟩ | ⟨_, rfl⟩
      · obtain ⟨p, _, rfl, _⟩ := lst_at a; exact ⟨p, rfl⟩
      · obtain ⟨p, _, rfl, _⟩ := tup_at a; exact ⟨p, rfl⟩
      · cases a; exact ⟨_, rfl⟩
    obtain ⟨z, e⟩ := ha
    subst e
    exact ⟨z, d, rfl, g, h1, h2, h3, h4, k _ m _ H q (Sub.refl _) M (.str _)⟩
end
end DL

set_option Elab.async false
set_option linter.all false
set_option maxRecDepth 100000
set_option maxHeartbeats 1000000
set_option autoImplicit false
/-! Comprehensions with two loops, and such as map. -/
namespace DL
open PySem PySem.Spec PyProof.Rows L2
section
variable {K : PySem.W.Frag} {δ : List (Option D)} {m : Mem} {Q : D → Mem → Prop} {te ta tb tc : TE} {P : Ps} {t u : TS} {tt tt1 : TT} {g g1 : TG} {wi wi1 : TI}
theorem tw_yes {R : Bool → Mem → Prop} (q : R true m) : TW K tYes δ m R := fun σ H s M QQ k => k true m H q (Sub.refl _) M
theorem ew_lcM {vs : List Nat} (tm : Tame g vs) (h : IW K wi δ m fun ds m1 => ∃ Iv : Nat → List D → Mem → Prop, Iv 0 [] m1 ∧
      (∀ (j : Nat) (d : D) (acc : List D) (m' : Mem) (z : Addr), ds[j]? = some d → Iv j acc m' → acc.length < sizeLine ∧ GW K g d (wipeD δ vs) (m' ++ [(z, .lst acc)]) fun δ2 m2 => TW K tt δ2 m2 fun b m3 =>
        if b = true then EW K te δ2 m3 fun y m4 => ∃ m5, m4 = m5 ++ [(z, .lst acc)] ∧ Iv (j + 1) (acc ++ [y]) m5 else ∃ m5, m3 = m5 ++ [(z, .lst acc)] ∧ Iv (j + 1) acc m5) ∧
      (∀ (acc : List D) (m' : Mem) (z : Addr), Iv ds.length acc m' → Q (.adr z) (m' ++ [(z, .lst acc)]))) : EW K (tLc wi g tt te vs) δ m Q := fun σ H s M QQ k =>
  h σ H s M _ fun J H1 m1 ds ⟨Iv, h0, hs, hd⟩ s1 M1 fe => by
    intro z hz
    have base : Sub (hide m1 H1) (hide (m1 ++ [(z, .lst [])]) (upd H1 z (.lst []))) := by
      rw [hide_cell hz]
      exact Sub.refl _
    refine ⟨fun i n H' => n = ds.length - i ∧ i ≤ ds.length ∧ ∃ acc m', Iv i acc m' ∧ Sub (hide m1 H1) (hide (m' ++ [(z, .lst acc)]) H') ∧ MemOk K (m' ++ [(z, .lst acc)]) H', ⟨ds.length, rfl, Nat.zero_le _, [], m1, h0, base, M1.cell (c := .lst []) hz ⟨[], upd_same, .nil⟩⟩, ?_⟩
    rintro i n H' ⟨rfl, hi, acc, m', hI, s2, M2⟩
    by_cases hlt : i < ds.length
    · refine .inr ⟨fe.go i _ H' s2 M2 hlt, fun H3 => ∃ acc m3, Iv (i + 1) acc m3 ∧ Sub (hide m1 H1) (hide (m3 ++ [(z, .lst acc)]) H3) ∧ MemOk K (m3 ++ [(z, .lst acc)]) H3, fun H3 q => ⟨ds.length - (i + 1), by omega, rfl, hlt, q⟩, fun x H3 y => ?_⟩
      have hdi : ds[i]? = some ds[i] := List.getElem?_eq_getElem hlt
      obtain ⟨s3, M3, r3⟩ := fe.yld i _ H' x H3 _ s2 M2 hdi y
      obtain ⟨hl, step⟩ := hs i _ acc m' z hdi hI
      have sb : Sub (hide m H) (hide (m' ++ [(z, .lst acc)]) H3) := s1.trans (s2.trans s3)
      refine tm x σ (wipe σ vs) H3 _ (wipe_idem σ vs) ?_
      refine step (wipe σ vs) H3 x ((s.mono sb).wipe vs) M3 r3 _ fun δ4 m4 σ4 H4 q4 s4 S4 M4 => ?_
      refine q4 σ4 H4 S4 M4 _ fun b m5 H5 q5 s5 M5 => ?_
      cases b with
      | true =>
        have q5' : EW K te δ4 m5 fun y m4 => ∃ m5, m4 = m5 ++ [(z, .lst acc)] ∧ Iv (i + 1) (acc ++ [y]) m5 := q5
        refine q5' σ4 H5 (S4.mono s5) M5 _ fun yd m6 yv H6 q6 s6 M6 r6 => ?_
        obtain ⟨m7, e7, hI7⟩ := q6
        subst e7
        have hm : (m7 ++ [(z, Cell.lst acc)])[m7.length]? = some (z, Cell.lst acc) := by simp
        obtain ⟨xs, ex, rx⟩ := cell_at M6 hm
        have es : (m7 ++ [(z, Cell.lst acc)]).set m7.length (z, Cell.lst (acc ++ [yd])) = m7 ++ [(z, Cell.lst (acc ++ [yd]))] := by
          rw [List.set_append_right _ _ (Nat.le_refl _), Nat.sub_self]
          rfl
        have eh : hide (m7 ++ [(z, Cell.lst (acc ++ [yd]))]) (upd H6 z (.lst (xs ++ [yv]))) = hide (m7 ++ [(z, Cell.lst acc)]) H6 := by
          rw [← es]
          exact hide_set hm
        refine ⟨xs, ex, by rw [rx.length]; exact hl, acc ++ [yd], m7, hI7, ?_, ?_⟩
        · rw [eh]
          exact s2.trans (s3.trans (s4.trans (s5.trans s6)))
        · rw [← es]
          exact M6.set hm ⟨xs ++ [yv], upd_same, rx.snoc r6⟩
      | false =>
        have q5' : ∃ m6, m5 = m6 ++ [(z, .lst acc)] ∧ Iv (i + 1) acc m6 := q5
        obtain ⟨m7, e7, hI7⟩ := q5'
        subst e7
        exact ⟨acc, m7, hI7, s2.trans (s3.trans (s4.trans s5)), M5⟩
    · have e : i = ds.length := by omega
      subst e
      refine .inl ⟨fe.stop _ H' s2 M2, ?_⟩
      exact k (.adr z) _ (.ref z) H' (hd acc m' z hI) (s1.trans s2) M2 (.adr z)
/-- the accumulator's step -/
theorem acc_step {m7 : Mem} {z : Addr} {acc : List D} {yd : D} {H6 : Hp} {yv : V} (M6 : MemOk K (m7 ++ [(z, Cell.lst acc)]) H6) (r6 : Rd K (hide (m7 ++ [(z, Cell.lst acc)]) H6) yv yd) :
    ∃ xs, H6 z = some (.lst xs) ∧ xs.length = acc.length ∧ hide (m7 ++ [(z, Cell.lst (acc ++ [yd]))]) (upd H6 z (.lst (xs ++ [yv]))) = hide (m7 ++ [(z, Cell.lst acc)]) H6 ∧ MemOk K (m7 ++ [(z, Cell.lst (acc ++ [yd]))]) (upd H6 z (.lst (xs ++ [yv]))) := by
  have hm : (m7 ++ [(z, Cell.lst acc)])[m7.length]? = some (z, Cell.lst acc) := by simp
  obtain ⟨xs, ex, rx⟩ := cell_at M6 hm
  have es : (m7 ++ [(z, Cell.lst acc)]).set m7.length (z, Cell.lst (acc ++ [yd])) = m7 ++ [(z, Cell.lst (acc ++ [yd]))] := by
    rw [List.set_append_right _ _ (Nat.le_refl _), Nat.sub_self]
    rfl
  refine ⟨xs, ex, rx.length, ?_, ?_⟩
  · rw [← es]
    exact hide_set hm
  · rw [← es]
    exact M6.set hm ⟨xs ++ [yv], upd_same, rx.snoc r6⟩
theorem acc_end {m' : Mem} {z : Addr} {acc : List D} {H' : Hp} (M2 : MemOk K (m' ++ [(z, Cell.lst acc)]) H') : Sub (hide (m' ++ [(z, Cell.lst acc)]) H') (hide m' H') ∧ MemOk K m' H' ∧ Rd K (hide m' H') (.ref z) (.lst acc) := by
  have hm : (m' ++ [(z, Cell.lst acc)])[m'.length]? = some (z, Cell.lst acc) := by simp
  obtain ⟨xs, ex, rx⟩ := cell_at M2 hm
  have nd := M2.nd
  rw [List.map_append] at nd
  have nz : z ∉ m'.map Prod.fst := fun q => by
    have := (List.nodup_append.mp nd).2.2 z q z (by simp)
    exact this rfl
  have sb : Sub (hide (m' ++ [(z, Cell.lst acc)]) H') (hide m' H') := fun a o ea => by
    by_cases q : a ∈ (m' ++ [(z, Cell.lst acc)]).map Prod.fst
    · rw [hide_in q] at ea; cases ea
    · rw [hide_out q] at ea
      rw [hide_out (fun w => q (by rw [List.map_append]; exact List.mem_append_left _ w))]
      exact ea
  have M3 : MemOk K m' H' := ⟨(List.nodup_append.mp nd).1, fun p c hc => (M2.at_ p c (List.mem_append_left _ hc)).mono sb rfl⟩
  refine ⟨sb, M3, .lst ?_ (rx.mono sb)⟩
  rw [hide_out nz]
  exact ex
theorem ew_lc2M {vs vs1 : List Nat} (tm : Tame g vs) (tm1 : Tame g1 vs1) (h : IW K wi δ m fun ds m1 => ∃ Iv : Nat → List D → Mem → Prop, Iv 0 [] m1 ∧
      (∀ (j : Nat) (d : D) (acc : List D) (m' : Mem) (z : Addr), ds[j]? = some d → Iv j acc m' → GW K g d (wipeD δ vs) (m' ++ [(z, .lst acc)]) fun δ2 m2 => TW K tt δ2 m2 fun b m3 =>
        if b = true then IW K wi1 δ2 m3 fun es m4 => ∃ Jv : Nat → List D → Mem → Prop, (∃ m5, m4 = m5 ++ [(z, .lst acc)] ∧ Jv 0 acc m5) ∧
          (∀ (k : Nat) (e : D) (acc' : List D) (m6 : Mem), es[k]? = some e → Jv k acc' m6 → acc'.length < sizeLine ∧ GW K g1 e (wipeD δ2 vs1) (m6 ++ [(z, .lst acc')]) fun δ3 m7 => TW K tt1 δ3 m7 fun b m8 =>
            if b = true then EW K te δ3 m8 fun y m9 => ∃ m10, m9 = m10 ++ [(z, .lst acc')] ∧ Jv (k + 1) (acc' ++ [y]) m10 else ∃ m10, m8 = m10 ++ [(z, .lst acc')] ∧ Jv (k + 1) acc' m10) ∧
          (∀ (acc' : List D) (m6 : Mem), Jv es.length acc' m6 → Iv (j + 1) acc' m6)
        else ∃ m5, m3 = m5 ++ [(z, .lst acc)] ∧ Iv (j + 1) acc m5) ∧
      (∀ (acc : List D) (m' : Mem) (z : Addr), Iv ds.length acc m' → Q (.adr z) (m' ++ [(z, .lst acc)]))) : EW K (tLc2 wi g tt wi1 g1 tt1 te vs vs1) δ m Q := fun σ H s M QQ k =>
  h σ H s M _ fun J H1 m1 ds ⟨Iv, h0, hs, hd⟩ s1 M1 fe => by
    intro z hz
    have base : Sub (hide m1 H1) (hide (m1 ++ [(z, .lst [])]) (upd H1 z (.lst []))) := by
      rw [hide_cell hz]
      exact Sub.refl _
    refine ⟨fun i n H' => n = ds.length - i ∧ i ≤ ds.length ∧ ∃ acc m', Iv i acc m' ∧ Sub (hide m1 H1) (hide (m' ++ [(z, .lst acc)]) H') ∧ MemOk K (m' ++ [(z, .lst acc)]) H', ⟨ds.length, rfl, Nat.zero_le _, [], m1, h0, base, M1.cell (c := .lst []) hz ⟨[], upd_same, .nil⟩⟩, ?_⟩
    rintro i n H' ⟨rfl, hi, acc, m', hI, s2, M2⟩
    by_cases hlt : i < ds.length
    · refine .inr ⟨fe.go i _ H' s2 M2 hlt, fun H3 => ∃ acc m3, Iv (i + 1) acc m3 ∧ Sub (hide m1 H1) (hide (m3 ++ [(z, .lst acc)]) H3) ∧ MemOk K (m3 ++ [(z, .lst acc)]) H3, fun H3 q => ⟨ds.length - (i + 1), by omega, rfl, hlt, q⟩, fun x H3 y => ?_⟩
      have hdi : ds[i]? = some ds[i] := List.getElem?_eq_getElem hlt
      obtain ⟨s3, M3, r3⟩ := fe.yld i _ H' x H3 _ s2 M2 hdi y
      have step := hs i _ acc m' z hdi hI
      have sb : Sub (hide m H) (hide (m' ++ [(z, .lst acc)]) H3) := s1.trans (s2.trans s3)
      refine tm x σ (wipe σ vs) H3 _ (wipe_idem σ vs) ?_
      refine step (wipe σ vs) H3 x ((s.mono sb).wipe vs) M3 r3 _ fun δ4 m4 σ4 H4 q4 s4 S4 M4 => ?_
      refine q4 σ4 H4 S4 M4 _ fun b m5 H5 q5 s5 M5 => ?_
      have s25 := s2.trans (s3.trans (s4.trans s5))
      cases b with
      | false =>
        have q5' : ∃ m6, m5 = m6 ++ [(z, .lst acc)] ∧ Iv (i + 1) acc m6 := q5
        obtain ⟨m7, e7, hI7⟩ := q5'
        subst e7
        exact ⟨acc, m7, hI7, s25, M5⟩
      | true =>
        rw [if_pos rfl] at q5
        refine q5 σ4 H5 (S4.mono s5) M5 _ fun J1 H6 m6 es ⟨Jv, ⟨m7, e7, hJ0⟩, hst, hend⟩ s6 M6 fe1 => ?_
        subst e7
        let acc0 := acc
        refine ⟨fun j n H' => n = es.length - j ∧ j ≤ es.length ∧ ∃ acc' m', Jv j acc' m' ∧ Sub (hide (m7 ++ [(z, .lst acc)]) H6) (hide (m' ++ [(z, .lst acc')]) H') ∧ MemOk K (m' ++ [(z, .lst acc')]) H', ⟨es.length, rfl, Nat.zero_le _, acc, m7, hJ0, Sub.refl _, M6⟩, ?_⟩
        rintro j n H7 ⟨rfl, hj, acc', m8, hJ, s7, M7⟩
        by_cases hlt1 : j < es.length
        · refine .inr ⟨fe1.go j _ H7 s7 M7 hlt1, fun H3 => ∃ acc m3, Jv (j + 1) acc m3 ∧ Sub (hide (m7 ++ [(z, .lst acc0)]) H6) (hide (m3 ++ [(z, .lst acc)]) H3) ∧ MemOk K (m3 ++ [(z, .lst acc)]) H3, fun H3 q => ⟨es.length - (j + 1), by omega, rfl, hlt1, q⟩, fun x1 H8 y1 => ?_⟩
          have hdj : es[j]? = some es[j] := List.getElem?_eq_getElem hlt1
          obtain ⟨s8, M8, r8⟩ := fe1.yld j _ H7 x1 H8 _ s7 M7 hdj y1
          obtain ⟨hl, step1⟩ := hst j _ acc' m8 hdj hJ
          refine tm1 x1 σ4 (wipe σ4 vs1) H8 _ (wipe_idem σ4 vs1) ?_
          refine step1 (wipe σ4 vs1) H8 x1 (((S4.mono s5).mono (s6.trans (s7.trans s8))).wipe vs1) M8 r8 _ fun δ9 m9 σ9 H9 q9 s9 S9 M9 => ?_
          refine q9 σ9 H9 S9 M9 _ fun b m10 H10 q10 s10 M10 => ?_
          cases b with
          | false =>
            have q' : ∃ m11, m10 = m11 ++ [(z, .lst acc')] ∧ Jv (j + 1) acc' m11 := q10
            obtain ⟨m11, e11, h11⟩ := q'
            subst e11
            exact ⟨acc', m11, h11, s7.trans (s8.trans (s9.trans s10)), M10⟩
          | true =>
            have q' : EW K te δ9 m10 fun y m9 => ∃ m10, m9 = m10 ++ [(z, .lst acc')] ∧ Jv (j + 1) (acc' ++ [y]) m10 := q10
            refine q' σ9 H10 (S9.mono s10) M10 _ fun yd m11 yv H11 q11 s11 M11 r11 => ?_
            obtain ⟨m12, e12, h12⟩ := q11
            subst e12
            obtain ⟨xs, ex, lx, eh, M12⟩ := acc_step M11 r11
            refine ⟨xs, ex, by rw [lx]; exact hl, acc' ++ [yd], m12, h12, ?_, M12⟩
            rw [eh]
            exact s7.trans (s8.trans (s9.trans (s10.trans s11)))
        · have e : j = es.length := by omega
          subst e
          exact .inl ⟨fe1.stop _ H7 s7 M7, acc', m8, hend acc' m8 hJ, s25.trans (s6.trans s7), M7⟩
    · have e : i = ds.length := by omega
      subst e
      refine .inl ⟨fe.stop _ H' s2 M2, ?_⟩
      exact k (.adr z) _ (.ref z) H' (hd acc m' z hI) (s1.trans s2) M2 (.adr z)
theorem ew_lc2 {vs vs1 : List Nat} (tm : Tame g vs) (tm1 : Tame g1 vs1) (h : IW K wi δ m fun ds m1 => ∃ Iv : Nat → List D → Mem → Prop, Iv 0 [] m1 ∧
      (∀ (j : Nat) (d : D) (acc : List D) (m' : Mem) (z : Addr), ds[j]? = some d → Iv j acc m' → GW K g d (wipeD δ vs) (m' ++ [(z, .lst acc)]) fun δ2 m2 => TW K tt δ2 m2 fun b m3 =>
        if b = true then IW K wi1 δ2 m3 fun es m4 => ∃ Jv : Nat → List D → Mem → Prop, (∃ m5, m4 = m5 ++ [(z, .lst acc)] ∧ Jv 0 acc m5) ∧
          (∀ (k : Nat) (e : D) (acc' : List D) (m6 : Mem), es[k]? = some e → Jv k acc' m6 → acc'.length < sizeLine ∧ GW K g1 e (wipeD δ2 vs1) (m6 ++ [(z, .lst acc')]) fun δ3 m7 => TW K tt1 δ3 m7 fun b m8 =>
            if b = true then EW K te δ3 m8 fun y m9 => ∃ m10, m9 = m10 ++ [(z, .lst acc')] ∧ Jv (k + 1) (acc' ++ [y]) m10 else ∃ m10, m8 = m10 ++ [(z, .lst acc')] ∧ Jv (k + 1) acc' m10) ∧
          (∀ (acc' : List D) (m6 : Mem), Jv es.length acc' m6 → Iv (j + 1) acc' m6)
        else ∃ m5, m3 = m5 ++ [(z, .lst acc)] ∧ Iv (j + 1) acc m5) ∧
      (∀ (acc : List D) (m' : Mem), Iv ds.length acc m' → Q (.lst acc) m')) : EW K (tLc2 wi g tt wi1 g1 tt1 te vs vs1) δ m Q :=
  ew_still (ew_lc2M tm tm1 fun σ H s M QQ k => h σ H s M QQ fun J H1 m1 ds ⟨Iv, h0, hs, hd⟩ => k J H1 m1 ds ⟨Iv, h0, hs, fun acc m' z hI => ⟨z, _, _, m', rfl, rfl, rfl, hd acc m' hI⟩⟩)
/-- a comprehension that maps a list; nothing else changes -/
theorem ew_lcF {vs : List Nat} (tm : Tame g vs) (h : IW K wi δ m fun ds m1 => ∃ (α : Type) (xs : List α) (f F : α → D), ds = xs.map f ∧ xs.length ≤ sizeLine ∧
      (∀ (x : α) (acc : List D) (z : Addr), x ∈ xs → GW K g (f x) (wipeD δ vs) (m1 ++ [(z, .lst acc)]) fun δ2 m2 => TW K tt δ2 m2 fun b m3 => b = true ∧ EW K te δ2 m3 fun y m4 => y = F x ∧ m4 = m1 ++ [(z, .lst acc)]) ∧
      Q (.lst (xs.map F)) m1) : EW K (tLc wi g tt te vs) δ m Q := by
  refine ew_lc tm fun σ H s M QQ k => h σ H s M QQ fun J H1 m1 ds ⟨α, xs, f, F, ed, hl, st, q⟩ => k J H1 m1 ds ⟨fun j acc m' => acc = (xs.take j).map F ∧ m' = m1, ⟨by simp, rfl⟩, ?_, ?_⟩
  · rintro j d acc m' z hj ⟨rfl, rfl⟩
    subst ed
    rw [List.getElem?_map] at hj
    cases c : xs[j]? with
    | none => rw [c] at hj; cases hj
    | some x =>
      rw [c] at hj
      cases hj
      have hlt := (List.getElem?_eq_some_iff.mp c).1
      refine ⟨by rw [List.length_map, List.length_take]; omega, ?_⟩
      refine fun σ H v s M r QQ k => st x _ z (List.mem_of_getElem? c) σ H v s M r QQ fun δ' m' σ' H' q => k δ' m' σ' H' fun σ H s M QQ k => q σ H s M QQ fun b m2 H2 q => k b m2 H2 ?_
      obtain ⟨rfl, q⟩ := q
      rw [if_pos rfl]
      refine fun σ H s M QQ k => q σ H s M QQ fun y m4 v4 H4 q => k y m4 v4 H4 ?_
      obtain ⟨rfl, rfl⟩ := q
      refine ⟨_, rfl, ?_, rfl⟩
      rw [List.take_add_one, c, List.map_append]
      rfl
  · rintro acc m' ⟨rfl, rfl⟩
    subst ed
    rw [List.length_map, List.take_length]
    exact q
/-- a comprehension that picks some of a list and maps them; nothing else changes -/
theorem ew_lcP {vs : List Nat} (tm : Tame g vs) (h : IW K wi δ m fun ds m1 => ∃ (α : Type) (xs : List α) (f F : α → D) (p : α → Bool), ds = xs.map f ∧ xs.length ≤ sizeLine ∧
      (∀ (x : α) (acc : List D) (z : Addr), x ∈ xs → GW K g (f x) (wipeD δ vs) (m1 ++ [(z, .lst acc)]) fun δ2 m2 => TW K tt δ2 m2 fun b m3 => b = p x ∧ m3 = m1 ++ [(z, .lst acc)] ∧ (b = true → EW K te δ2 m3 fun y m4 => y = F x ∧ m4 = m1 ++ [(z, .lst acc)])) ∧
      Q (.lst ((xs.filter p).map F)) m1) : EW K (tLc wi g tt te vs) δ m Q := by
  refine ew_lc tm fun σ H s M QQ k => h σ H s M QQ fun J H1 m1 ds ⟨α, xs, f, F, p, ed, hl, st, q⟩ => k J H1 m1 ds ⟨fun j acc m' => acc = ((xs.take j).filter p).map F ∧ m' = m1, ⟨by simp, rfl⟩, ?_, ?_⟩
  · rintro j d acc m' z hj ⟨rfl, rfl⟩
    subst ed
    rw [List.getElem?_map] at hj
    cases c : xs[j]? with
    | none => rw [c] at hj; cases hj
    | some x =>
      rw [c] at hj
      cases hj
      have hlt := (List.getElem?_eq_some_iff.mp c).1
      have hle : ((xs.take j).filter p).length ≤ j := Nat.le_trans (List.length_filter_le _ _) (by rw [List.length_take]; omega)
      refine ⟨by rw [List.length_map]; omega, ?_⟩
      refine fun σ H v s M r QQ k => st x _ z (List.mem_of_getElem? c) σ H v s M r QQ fun δ' m' σ' H' q => k δ' m' σ' H' fun σ H s M QQ k => q σ H s M QQ fun b m2 H2 q => k b m2 H2 ?_
      obtain ⟨hb, rfl, q⟩ := q
      cases b with
      | true =>
        rw [if_pos rfl]
        refine fun σ H s M QQ k => q rfl σ H s M QQ fun y m4 v4 H4 q => k y m4 v4 H4 ?_
        obtain ⟨rfl, rfl⟩ := q
        refine ⟨_, rfl, ?_, rfl⟩
        rw [List.take_add_one, c, List.filter_append, List.map_append]
        simp [← hb]
      | false =>
        rw [if_neg Bool.false_ne_true]
        refine ⟨_, rfl, ?_, rfl⟩
        rw [List.take_add_one, c, List.filter_append, List.map_append]
        simp [← hb]
  · rintro acc m' ⟨rfl, rfl⟩
    subst ed
    rw [List.length_map, List.take_length]
    exact q
theorem intsD0 (n : Nat) : intsD 0 n = (List.range n).map fun i => D.int (i : Nat) := by simp [intsD]
theorem enumD_map {α : Type} (xs : List α) (f : α → D) : enumD (xs.map f) = xs.zipIdx.map fun p => D.tup [.int (p.2 : Nat), f p.1] := by
  unfold enumD
  rw [List.zipIdx_map, List.map_map]
  rfl
end
end DL

set_option Elab.async false
set_option linter.all false
set_option maxRecDepth 100000
set_option maxHeartbeats 1000000
set_option autoImplicit false
/-! Calls with keywords. -/
namespace DL
open PySem PySem.Spec PyProof.Rows L2
/-- how a call with n positional values and the keywords ks binds, every parameter being told -/
def KB (K : PySem.W.Frag) (f : Addr) (ps : List Str) (n : Nat) (ks : List Str) : Prop := ∀ fd, FdAt K f fd → ∃ g : {α : Type} → List α → List α → List α, (∀ us ws : List Value, us.length = n → ws.length = ks.length → bindArgs fd ⟨us, ks.zip ws⟩ = pure (ps.zip (g us ws))) ∧ True
theorem fdAt_inj {K : PySem.W.Frag} {f : Addr} {fd fd' : FuncData} (h : FdAt K f fd) (h' : FdAt K f fd') : fd = fd' := by
  obtain ⟨_, _, _, h⟩ := h
  obtain ⟨_, _, _, h'⟩ := h'
  rw [h] at h'
  injection h' with h'
  injection h' with _ _ h' _
  injection h'
/-- a promise at so many arguments -/
abbrev FSn (n : Nat) (F : FS) : FS := fun ds m Q => ds.length = n ∧ F ds m Q
/-- a constant of the top -/
theorem kx_con {X : Cx} {x : Str} {v : V} {pos : Pos} (h : ∃ u, X.mg x = some u ∧ RelV v u) (hg : Gl X x) (hd : (x == ("__debug__" : Str)) = false := by decide) : PE X (.Name x pos) (tC v) := let ⟨_, h, r⟩ := h; pe_glob hg h r hd
theorem sw_ifJ {K : PySem.W.Frag} {tt : TT} {t u : TS} {δ : List (Option D)} {m : Mem} {P : Ps} (J : List (Option D) → Mem → Prop) (h : TW K tt δ m fun b m1 => if b = true then SW K t δ m1 { P with nx := J } else SW K u δ m1 { P with nx := J }) (n : ∀ δ' m', J δ' m' → P.nx δ' m') : SW K (tIfS tt t u) δ m P :=
  sw_mid (sw_if h) n (fun _ _ q => q) (fun _ _ q => q) (fun _ _ q => q)
theorem cut_to {ds : List D} {i : Int} (h : 0 ≤ i) : cutD ds none (some i) = ds.take i.toNat := by
  obtain ⟨k, rfl⟩ : ∃ k : Nat, i = k := ⟨i.toNat, by omega⟩
  unfold cutD
  rw [HT.sIx_none, HT.sIx_nat, Nat.sub_zero, List.drop_zero, Int.toNat_natCast, List.take_eq_take_iff]
  omega
theorem cut_from {ds : List D} {i : Int} (h : 0 ≤ i) : cutD ds (some i) none = ds.drop i.toNat := by
  obtain ⟨k, rfl⟩ : ∃ k : Nat, i = k := ⟨i.toNat, by omega⟩
  unfold cutD
  rw [HT.sIx_none, HT.sIx_nat, Int.toNat_natCast, List.take_of_length_le (by rw [List.length_drop]; omega)]
  by_cases l : k ≤ ds.length
  · rw [Nat.min_eq_left l]
  · rw [Nat.min_eq_right (by omega), List.drop_of_length_le (Nat.le_refl _), List.drop_of_length_le (by omega)]
section
variable {K : PySem.W.Frag} {δ : List (Option D)} {m : Mem} {P : Ps} {ta : TA} {te : TE} {g : TG} {t : TS} {wi : TI}
theorem sw_forN (h : AW K ta δ m fun xs m1 => ∃ k : Nat, xs = [.int (k : Nat)] ∧ k < 2 ^ 62 ∧ ∃ Iv : Nat → List (Option D) → Mem → Prop, Iv 0 δ m1 ∧
      (∀ (j : Nat) (δ' : List (Option D)) (m' : Mem), j < k → Iv j δ' m' → GW K g (.int (j : Nat)) δ' m' fun δ2 m2 => SW K t δ2 m2 { nx := Iv (j + 1), ct := Iv (j + 1), bk := P.nx, rt := P.rt }) ∧
      ∀ (δ' : List (Option D)) (m' : Mem), Iv k δ' m' → P.nx δ' m') : SW K (tFor (iRng1 ta) g t) δ m P :=
  sw_for (iw_rng1 fun σ H s M QQ kk => h σ H s M QQ fun xs m1 vs H1 ⟨k, e, hk, Iv, h0, hs, hd⟩ => kk xs m1 vs H1 ⟨(k : Int), e, by omega, by omega, Iv, h0, fun j d δ' m' hj hI => by
    obtain ⟨l, rfl⟩ := intsD_get hj
    have := hs j δ' m' (by omega) hI
    rwa [Int.zero_add], fun δ' m' hI => hd δ' m' (by rw [intsD_len] at hI; exact hI)⟩)
theorem sw_forX (h : IW K wi δ m fun ds m1 => ∃ (α : Type) (xs : List α) (f : α → D), ds = xs.map f ∧ ∃ Iv : Nat → List (Option D) → Mem → Prop, Iv 0 δ m1 ∧
      (∀ (j : Nat) (x : α) (δ' : List (Option D)) (m' : Mem), xs[j]? = some x → Iv j δ' m' → GW K g (f x) δ' m' fun δ2 m2 => SW K t δ2 m2 { nx := Iv (j + 1), ct := Iv (j + 1), bk := P.nx, rt := P.rt }) ∧
      ∀ (δ' : List (Option D)) (m' : Mem), Iv xs.length δ' m' → P.nx δ' m') : SW K (tFor wi g t) δ m P :=
  sw_for fun σ H s M QQ kk => h σ H s M QQ fun J H1 m1 ds ⟨α, xs, f, ed, Iv, h0, hs, hd⟩ => kk J H1 m1 ds ⟨Iv, h0, fun j d δ' m' hj hI => by
    subst ed
    rw [List.getElem?_map] at hj
    cases c : xs[j]? with
    | none => rw [c] at hj; cases hj
    | some x =>
      rw [c] at hj
      cases hj
      exact hs j x δ' m' c hI, fun δ' m' hI => hd δ' m' (by rw [ed, List.length_map] at hI; exact hI)⟩
end
section
variable {K : PySem.W.Frag} {δ : List (Option D)} {m : Mem} {Q : D → Mem → Prop} {ta : TA} {te : TE} {tt : TT} {g : TG} {wi : TI}
theorem iw_rngN {R : List D → Mem → Prop} (h : AW K ta δ m fun xs m1 => ∃ k : Nat, xs = [.int (k : Nat)] ∧ k < 2 ^ 62 ∧ R ((List.range k).map fun i => D.int (i : Nat)) m1) : IW K (iRng1 ta) δ m R :=
  iw_rng1 fun σ H s M QQ kk => h σ H s M QQ fun xs m1 vs H1 ⟨k, e, hk, q⟩ => kk xs m1 vs H1 ⟨(k : Int), e, by omega, by omega, by rw [Int.toNat_natCast, intsD0]; exact q⟩
/-- a comprehension whose items are drawn: R what each of them keeps, Mv the cells behind so many -/
theorem ew_lcD {α β : Type} {vs : List Nat} (f : β → D) (R : Nat → β → Prop) (Mv : Nat → Mem → Prop) (tm : Tame g vs) (h : IW K wi δ m fun ds m1 => ∃ (xs : List α) (e : α → D), ds = xs.map e ∧ xs.length ≤ sizeLine ∧ Mv 0 m1 ∧
      (∀ (j : Nat) (x : α) (acc : List D) (m' : Mem) (z : Addr), xs[j]? = some x → Mv j m' → GW K g (e x) (wipeD δ vs) (m' ++ [(z, .lst acc)]) fun δ2 m2 => TW K tt δ2 m2 fun b m3 => b = true ∧ EW K te δ2 m3 fun y m4 => ∃ t m5, y = f t ∧ R j t ∧ m4 = m5 ++ [(z, .lst acc)] ∧ Mv (j + 1) m5) ∧
      ∀ (ts : List β) (m' : Mem), ts.length = xs.length → (∀ (j : Nat) (t : β), ts[j]? = some t → R j t) → Mv xs.length m' → Q (.lst (ts.map f)) m') : EW K (tLc wi g tt te vs) δ m Q := by
  refine ew_lc tm fun σ H s M QQ k => h σ H s M QQ fun J H1 m1 ds ⟨xs, e, ed, hl, h0, st, q⟩ => k J H1 m1 ds ⟨fun j acc m' => ∃ ts : List β, acc = ts.map f ∧ ts.length = j ∧ (∀ (i : Nat) (t : β), ts[i]? = some t → R i t) ∧ Mv j m', ⟨[], rfl, rfl, fun i t h => by simp at h, h0⟩, ?_, ?_⟩
  · rintro j d acc m' z hj ⟨ts, rfl, hlen, hR, hM⟩
    subst ed
    rw [List.getElem?_map] at hj
    cases c : xs[j]? with
    | none => rw [c] at hj; cases hj
    | some x =>
      rw [c] at hj
      cases hj
      have hlt := (List.getElem?_eq_some_iff.mp c).1
      refine ⟨by rw [List.length_map]; omega, ?_⟩
      refine fun σ H v s M r QQ k => st j x _ m' z c hM σ H v s M r QQ fun δ' m' σ' H' q => k δ' m' σ' H' fun σ H s M QQ k => q σ H s M QQ fun b m2 H2 q => k b m2 H2 ?_
      obtain ⟨rfl, q⟩ := q
      rw [if_pos rfl]
      refine fun σ H s M QQ k => q σ H s M QQ fun y m4 v4 H4 q => k y m4 v4 H4 ?_
      obtain ⟨t, m5, rfl, hr, rfl, hM'⟩ := q
      refine ⟨m5, rfl, ts ++ [t], by rw [List.map_append]; rfl, by rw [List.length_append, hlen]; rfl, fun i t' ht => ?_, hM'⟩
      by_cases hi : i < ts.length
      · rw [List.getElem?_append_left hi] at ht
        exact hR i t' ht
      · rw [List.getElem?_append_right (by omega)] at ht
        have e0 : i - ts.length = 0 := by
          have := (List.getElem?_eq_some_iff.mp ht).1
          simp at this
          omega
        rw [e0] at ht
        simp at ht
        subst ht
        rw [show i = j by omega]
        exact hr
  · rintro acc m' ⟨ts, rfl, hlen, hR, hM⟩
    rw [ed, List.length_map] at hlen hM
    exact q ts m' hlen hR hM
end
theorem range_get {k j x : Nat} (h : (List.range k)[j]? = some x) : j < k ∧ j = x := by
  have hj := (List.getElem?_eq_some_iff.mp h).1
  rw [List.length_range] at hj
  rw [List.getElem?_range hj] at h
  cases h
  exact ⟨hj, rfl⟩
/-- keywords alone, in the parameters' order -/
def KB0 (K : PySem.W.Frag) (f : Addr) (ps : List Str) : Prop := ∀ fd, FdAt K f fd → ∀ ws : List Value, ws.length = ps.length → bindArgs fd ⟨[], ps.zip ws⟩ = pure (ps.zip ws)
theorem KB0.kbn {K : PySem.W.Frag} {f : Addr} {ps : List Str} {fd : FuncData} (h : KB0 K f ps) (e : FdAt K f fd) : KBn K fd ps 0 ps (fun _ ws => ws) (fun _ zs => zs) :=
  ⟨fun s us ws _ l1 l2 => by
    have : us = [] := List.length_eq_zero_iff.mp l1
    subst this
    exact BindsTo.of_eq (h fd e ws l2), fun _ r => r⟩
def tKw0 (n : Nat) (sp : Sp) (E : XK) (tk : TA) : TE := fun σ H Q => tk σ H fun zs H2 => zs.length = n ∧ sp zs H2 Q E
section
variable {X : Cx} {k : Nat} {f : Addr} {ps : List Str} {Pf : FS} {x : Str} {p pos : Pos} {kws : List Keyword} {tk : TA}
theorem pe_kw0 (D : Def X.prog X.w X.K X.mg X.base k f ps Pf) (kb : KB0 X.K f ps) (hr : Room k X.A) (hg : Gl X x) (hm : X.mg x = some (.ref f)) (hk : PySem.W.keepIn X.K (.ref f) = true) (hkw : PK X kws tk)
    (hall : (backToKw pos (keywordEach kws X.env)).all (·.1.isSome) = true := by rfl) (hks : (backToKw pos (keywordEach kws X.env)).filterMap (·.1) = ps := by rfl) (hdb : (x == ("__debug__" : Str)) = false := by decide)
    (hpl : ((backTo pos (starEach [] X.env)).any (·.1) || (backToKw pos (keywordEach kws X.env)).any (·.1.isNone)) = false := by rfl) :
    PE X (.Call (.Name x p) [] kws pos) (tKw0 ps.length (spOf X.K Pf) E0 tk) := by
  obtain ⟨fd, F, _, e⟩ := D
  refine ⟨fun pins s σ H Q I h => ?_⟩
  refine wpAny_Call_Name_kw (ld_glob I hg hm ?_ hdb)
  refine PySem.W.callWith_KW0 (h₀ := X.base) I.ok.mod.kin hk hall ?_ hpl
  refine thn (hkw.run pos pins s σ H _ I h) fun ws s2 ⟨zs, H2, I2, rz, l2, q2⟩ => ⟨I2.kIn, ?_⟩
  rw [hks]
  exact run_fnN (us := []) (vs := []) F hr (kb.kbn e) pass0 I2 .nil rz rfl l2 q2
theorem kx_kw0 (K : PySem.W.Frag) (hK : X.K = K) (D : Def X.prog X.w X.K X.mg X.base k f ps Pf) (kb : KB0 X.K f ps) (hr : Room k X.A) (hg : Gl X x) (hm : X.mg x = some (.ref f)) (hk : PySem.W.keepIn X.K (.ref f) = true) (hkw : PK X kws tk)
    (hall : (backToKw pos (keywordEach kws X.env)).all (·.1.isSome) = true := by rfl) (hks : (backToKw pos (keywordEach kws X.env)).filterMap (·.1) = ps := by rfl) (hdb : (x == ("__debug__" : Str)) = false := by decide)
    (hpl : ((backTo pos (starEach [] X.env)).any (·.1) || (backToKw pos (keywordEach kws X.env)).any (·.1.isNone)) = false := by rfl) :
    PE X (.Call (.Name x p) [] kws pos) (tKw0 ps.length (spOf K Pf) E0 tk) := by subst hK; exact pe_kw0 D kb hr hg hm hk hkw hall hks hdb hpl
end
section
variable {K : PySem.W.Frag} {δ : List (Option D)} {m : Mem} {Q : D → Mem → Prop}
theorem ew_kw0 {Pf : FS} {E : XK} {t : TA} {n : Nat} (h : AW K t δ m fun ds m1 => ds.length = n ∧ Pf ds m1 Q) : EW K (tKw0 n (spOf K Pf) E t) δ m Q := fun σ H s M QQ k =>
  h σ H s M _ fun ds m1 vs H1 ⟨l, q⟩ s1 M1 r1 => ⟨by rw [r1.length, l], ds, m1, Q, r1, M1, q, fun d m2 v H2 q2 s2 M2 r2 => k d m2 v H2 q2 (s1.trans s2) M2 r2⟩
end
end DL

set_option Elab.async false
set_option linter.all false
set_option maxRecDepth 100000
set_option maxHeartbeats 1000000
set_option autoImplicit false
/-! Tables: the states that come about, in the sequence in which they are reached. -/
namespace DL
abbrev Step := Nat × Option Int
abbrev Tab := List (List Step)
def ext (o : List Nat) (gs : List Nat) : List Nat := gs.foldl (fun o g => if g ∈ o then o else o ++ [g]) o
theorem ext_nil (o : List Nat) : ext o [] = o := rfl
theorem ext_cons (o gs : List Nat) (g : Nat) : ext o (g :: gs) = ext (if g ∈ o then o else o ++ [g]) gs := rfl
theorem ext_snoc (o gs : List Nat) (g : Nat) : ext o (gs ++ [g]) = if g ∈ ext o gs then ext o gs else ext o gs ++ [g] := by
  unfold ext
  rw [List.foldl_append]
  rfl
theorem ext_pre : ∀ (gs o : List Nat), o <+: ext o gs
  | [], o => List.prefix_refl o
  | g :: gs, o => by
    rw [ext_cons]
    refine List.IsPrefix.trans ?_ (ext_pre gs _)
    by_cases h : g ∈ o
    · rw [if_pos h]; exact List.prefix_refl o
    · rw [if_neg h]; exact List.prefix_append o [g]
theorem ext_mem {x : Nat} : ∀ (gs o : List Nat), x ∈ ext o gs ↔ x ∈ o ∨ x ∈ gs
  | [], o => by simp [ext_nil]
  | g :: gs, o => by
    rw [ext_cons, ext_mem gs]
    by_cases h : g ∈ o
    · rw [if_pos h]
      simp only [List.mem_cons]
      constructor
      · rintro (a | a)
        · exact .inl a
        · exact .inr (.inr a)
      · rintro (a | rfl | a)
        · exact .inl a
        · exact .inl h
        · exact .inr a
    · rw [if_neg h]
      rw [List.mem_append, List.mem_singleton, List.mem_cons]
      constructor
      · rintro ((a | a) | a)
        · exact .inl a
        · exact .inr (.inl a)
        · exact .inr (.inr a)
      · rintro (a | a | a)
        · exact .inl (.inl a)
        · exact .inl (.inr a)
        · exact .inr a
theorem ext_nd : ∀ (gs o : List Nat), o.Nodup → (ext o gs).Nodup
  | [], o, h => h
  | g :: gs, o, h => by
    rw [ext_cons]
    refine ext_nd gs _ ?_
    by_cases c : g ∈ o
    · rw [if_pos c]; exact h
    · rw [if_neg c]
      refine List.nodup_append.mpr ⟨h, by simp, fun a ha b hb => ?_⟩
      rw [List.mem_singleton] at hb
      subst hb
      exact fun e => c (e ▸ ha)
theorem ext_map {f : Nat → Nat} : ∀ (gs o : List Nat), (∀ x ∈ o ++ gs, ∀ y ∈ o ++ gs, f x = f y → x = y) → ext (o.map f) (gs.map f) = (ext o gs).map f
  | [], o, _ => rfl
  | g :: gs, o, h => by
    rw [List.map_cons, ext_cons, ext_cons]
    by_cases c : g ∈ o
    · rw [if_pos c, if_pos (List.mem_map_of_mem c)]
      exact ext_map gs o fun x hx y hy => h x (by simp at hx ⊢; rcases hx with a | a <;> simp [a]) y (by simp at hy ⊢; rcases hy with a | a <;> simp [a])
    · have c' : f g ∉ o.map f := fun hm => by
        obtain ⟨x, hx, e⟩ := List.mem_map.mp hm
        have := h x (by simp [hx]) g (by simp) e
        exact c (this ▸ hx)
      rw [if_neg c, if_neg c', show o.map f ++ [f g] = (o ++ [g]).map f by simp]
      exact ext_map gs _ fun x hx y hy => h x (by simpa [or_assoc] using hx) y (by simpa [or_assoc] using hy)
def goals (T : Tab) (s : Nat) : List Nat := (T.getD s []).map (·.1)
def ordT (T : Tab) : Nat → List Nat
  | 0 => [0]
  | t + 1 => if t < (ordT T t).length then ext (ordT T t) (goals T ((ordT T t).getD t 0)) else ordT T t
theorem ordT_pre1 (T : Tab) (t : Nat) : ordT T t <+: ordT T (t + 1) := by
  rw [ordT]
  split
  · exact ext_pre _ _
  · exact List.prefix_refl _
theorem ordT_pre (T : Tab) {t u : Nat} (h : t ≤ u) : ordT T t <+: ordT T u := by
  induction u with
  | zero => rw [Nat.le_zero.mp h]; exact List.prefix_refl _
  | succ u ih =>
    by_cases e : t = u + 1
    · rw [e]; exact List.prefix_refl _
    · exact (ih (by omega)).trans (ordT_pre1 T u)
theorem ordT_nd (T : Tab) : ∀ t, (ordT T t).Nodup
  | 0 => by simp [ordT]
  | t + 1 => by
    rw [ordT]
    split
    · exact ext_nd _ _ (ordT_nd T t)
    · exact ordT_nd T t
theorem ordT_stop (T : Tab) {t : Nat} (h : (ordT T t).length ≤ t) : ∀ {u : Nat}, t ≤ u → ordT T u = ordT T t := by
  intro u hu
  induction u with
  | zero => rw [Nat.le_zero.mp hu]
  | succ u ih =>
    by_cases e : t = u + 1
    · rw [e]
    · have := ih (by omega)
      rw [ordT, this, if_neg (by omega)]
/-- a table: at least one state, steps lead to states -/
structure TabOk (T : Tab) : Prop where
  pos : 0 < T.length
  lt : ∀ r ∈ T, ∀ s ∈ r, s.1 < T.length
theorem TabOk.goals {T : Tab} (h : TabOk T) {s g : Nat} (hg : g ∈ goals T s) : g < T.length := by
  unfold DL.goals at hg
  obtain ⟨x, hx, rfl⟩ := List.mem_map.mp hg
  by_cases c : s < T.length
  · rw [List.getD_eq_getElem?_getD, List.getElem?_eq_getElem c] at hx
    exact h.lt _ (List.getElem_mem c) x hx
  · rw [List.getD_eq_getElem?_getD, List.getElem?_eq_none (by omega)] at hx
    cases hx
theorem ordT_lt {T : Tab} (h : TabOk T) : ∀ (t : Nat) (x : Nat), x ∈ ordT T t → x < T.length
  | 0, x, hx => by
    simp [ordT] at hx
    subst hx
    exact h.pos
  | t + 1, x, hx => by
    rw [ordT] at hx
    split at hx
    · rcases (ext_mem _ _).mp hx with a | a
      · exact ordT_lt h t x a
      · exact h.goals a
    · exact ordT_lt h t x hx
theorem nd_le : ∀ (n : Nat) (l : List Nat), l.Nodup → (∀ x ∈ l, x < n) → l.length ≤ n := by
  intro n
  induction n with
  | zero =>
    intro l _ h
    cases l with
    | nil => exact Nat.le_refl _
    | cons a l => exact absurd (h a (by simp)) (by omega)
  | succ n ih =>
    intro l nd h
    by_cases c : n ∈ l
    · have e := List.length_erase_of_mem c
      have := ih (l.erase n) (nd.erase n) fun x hx => by
        have h1 := (nd.mem_erase_iff).mp hx
        have h2 := h x h1.2
        omega
      omega
    · have := ih l nd fun x hx => by
        have h2 := h x hx
        have h3 : x ≠ n := fun e => c (e ▸ hx)
        omega
      omega
theorem ordT_len {T : Tab} (h : TabOk T) (t : Nat) : (ordT T t).length ≤ T.length := nd_le _ _ (ordT_nd T t) (ordT_lt h t)
theorem ordT_pos (T : Tab) (t : Nat) : 0 < (ordT T t).length := Nat.lt_of_lt_of_le (by decide : 0 < [0].length) (ordT_pre T (Nat.zero_le t)).length_le
def fin (T : Tab) : List Nat := ordT T T.length
theorem fin_nd (T : Tab) : (fin T).Nodup := ordT_nd T _
theorem fin_len {T : Tab} (h : TabOk T) : (fin T).length ≤ T.length := ordT_len h _
theorem fin_lt {T : Tab} (h : TabOk T) {x : Nat} (hx : x ∈ fin T) : x < T.length := ordT_lt h _ x hx
theorem fin_pre {T : Tab} {t : Nat} (ht : t ≤ T.length) : ordT T t <+: fin T := ordT_pre T ht
theorem fin_at {T : Tab} (h : TabOk T) : ordT T (fin T).length = fin T :=
  (ordT_stop T (fin_pre (fin_len h)).length_le (fin_len h)).symm
/-- a search that has come to its end has found all -/
theorem fin_of {T : Tab} (h : TabOk T) {t : Nat} (ht : (ordT T t).length ≤ t) : ordT T t = fin T := by
  have l := ordT_len h t
  by_cases c : t ≤ T.length
  · exact (ordT_stop T ht c).symm
  · have h2 : (ordT T T.length).length ≤ T.length := ordT_len h _
    exact ordT_stop T h2 (by omega)
theorem fin_closed {T : Tab} (h : TabOk T) {s g : Nat} (hs : s ∈ fin T) (hg : g ∈ goals T s) : g ∈ fin T := by
  obtain ⟨i, hi, e⟩ := List.getElem_of_mem hs
  have hp : ordT T i <+: fin T := fin_pre (by have := fin_len h; omega)
  have hp1 : ordT T (i + 1) <+: fin T := fin_pre (by have := fin_len h; omega)
  by_cases c : i < (ordT T i).length
  · have ei : (ordT T i)[i] = s := by
      rw [← e]
      exact hp.getElem c
    refine hp1.subset ?_
    rw [ordT, if_pos c, List.getD_eq_getElem?_getD, List.getElem?_eq_getElem c]
    exact (ext_mem _ _).mpr (.inr (by simpa [ei] using hg))
  · have := fin_of h (t := i) (by omega)
    rw [this] at c
    omega
def normT (T : Tab) : Tab := (fin T).map fun s => (T.getD s []).map fun p => ((fin T).idxOf p.1, p.2)
theorem normT_len (T : Tab) : (normT T).length = (fin T).length := by simp [normT]
theorem normT_get {T : Tab} {i : Nat} (hi : i < (fin T).length) : (normT T).getD i [] = (T.getD (fin T)[i] []).map fun p => ((fin T).idxOf p.1, p.2) := by
  unfold normT
  rw [List.getD_eq_getElem?_getD, List.getElem?_map, List.getElem?_eq_getElem hi]
  rfl
theorem normT_ok {T : Tab} (h : TabOk T) : TabOk (normT T) := by
  refine ⟨by rw [normT_len]; exact ordT_pos T _, fun r hr s hs => ?_⟩
  rw [normT_len]
  unfold normT at hr
  obtain ⟨x, hx, rfl⟩ := List.mem_map.mp hr
  obtain ⟨p, hp, rfl⟩ := List.mem_map.mp hs
  exact List.idxOf_lt_length_of_mem (fin_closed h hx (by unfold DL.goals; exact List.mem_map_of_mem hp))
theorem map_idx {o O : List Nat} (hp : o <+: O) (nd : O.Nodup) : o.map (fun x => O.idxOf x) = List.range o.length := by
  refine List.ext_getElem (by simp) fun i h1 h2 => ?_
  rw [List.getElem_map, List.getElem_range]
  have hi : i < o.length := by simpa using h1
  have hl := hp.length_le
  have e : o[i] = O[i]'(by omega) := hp.getElem hi
  rw [e]
  exact nd.idxOf_getElem i (by omega)
theorem ordT_norm {T : Tab} (h : TabOk T) : ∀ t, ordT (normT T) t = (ordT T t).map fun x => (fin T).idxOf x
  | 0 => by
    have hp : ordT T 0 <+: fin T := fin_pre (Nat.zero_le _)
    rw [map_idx hp (fin_nd T)]
    rfl
  | t + 1 => by
    have ih := ordT_norm h t
    rw [ordT, ordT, ih, List.length_map]
    by_cases c : t < (ordT T t).length
    · rw [if_pos c, if_pos c]
      have hln := ordT_len h t
      have hp : ordT T t <+: fin T := fin_pre (by omega)
      have hp1 : ordT T (t + 1) <+: fin T := fin_pre (by omega)
      have hf : t < (fin T).length := Nat.lt_of_lt_of_le c hp.length_le
      have ei : (ordT T t)[t] = (fin T)[t] := hp.getElem c
      have e1 : ((ordT T t).map fun x => (fin T).idxOf x).getD t 0 = t := by
        rw [map_idx hp (fin_nd T), List.getD_eq_getElem?_getD, List.getElem?_range c]
        rfl
      have e2 : (ordT T t).getD t 0 = (fin T)[t] := by
        rw [List.getD_eq_getElem?_getD, List.getElem?_eq_getElem c, ei]
        rfl
      have e3 : goals (normT T) t = (goals T (fin T)[t]).map fun x => (fin T).idxOf x := by
        unfold goals
        rw [normT_get hf, List.map_map, List.map_map]
        rfl
      rw [e1, e2, e3]
      have hin : ∀ x ∈ ordT T t ++ goals T (fin T)[t], x ∈ fin T := fun x hx => by
        rcases List.mem_append.mp hx with a | a
        · exact hp.subset a
        · exact fin_closed h (List.getElem_mem hf) a
      refine ext_map (f := fun x => (fin T).idxOf x) _ _ fun x hx y hy e => ?_
      obtain ⟨i, hi, rfl⟩ := List.getElem_of_mem (hin x hx)
      obtain ⟨j, hj, rfl⟩ := List.getElem_of_mem (hin y hy)
      have a1 := (fin_nd T).idxOf_getElem i hi
      have a2 := (fin_nd T).idxOf_getElem j hj
      have : i = j := by rw [← a1, ← a2]; exact e
      subst this
      rfl
    · rw [if_neg c, if_neg c]
/-- a table whose states are numbered as they are reached -/
def Normal (T : Tab) : Prop := fin T = List.range T.length
theorem normT_normal {T : Tab} (h : TabOk T) : Normal (normT T) := by
  unfold Normal
  conv => lhs; unfold fin
  rw [normT_len, ordT_norm h, fin_at h, map_idx (List.prefix_refl _) (fin_nd T)]
theorem range_idx {n x : Nat} (h : x < n) : (List.range n).idxOf x = x := by
  have := (List.nodup_range (n := n)).idxOf_getElem x (by simpa using h)
  simpa using this
/-- such a table, with states behind that do not come about, reads as itself -/
theorem ordT_more {T : Tab} (h : TabOk T) (X : Tab) : ∀ t, ordT (T ++ X) t = ordT T t
  | 0 => rfl
  | t + 1 => by
    rw [ordT, ordT, ordT_more h X t]
    by_cases c : t < (ordT T t).length
    · rw [if_pos c, if_pos c]
      have hx : (ordT T t).getD t 0 < T.length := by
        rw [List.getD_eq_getElem?_getD, List.getElem?_eq_getElem c]
        exact ordT_lt h t _ (List.getElem_mem c)
      have : goals (T ++ X) ((ordT T t).getD t 0) = goals T ((ordT T t).getD t 0) := by
        unfold goals
        rw [List.getD_eq_getElem?_getD, List.getD_eq_getElem?_getD (l := T), List.getElem?_append_left hx]
      rw [this]
    · rw [if_neg c, if_neg c]
theorem fin_more {T : Tab} (h : TabOk T) (X : Tab) : fin (T ++ X) = fin T := by
  unfold fin
  rw [ordT_more h X]
  exact ordT_stop T (ordT_len h _) (by simp)
theorem normT_more {T : Tab} (h : TabOk T) (n : Normal T) (X : Tab) : normT (T ++ X) = T := by
  unfold normT
  rw [fin_more h X, n]
  refine List.ext_getElem (by simp) fun i h1 h2 => ?_
  have hi : i < T.length := by simpa using h2
  rw [List.getElem_map, List.getElem_range, List.getD_eq_getElem?_getD, List.getElem?_append_left hi, List.getElem?_eq_getElem hi]
  show (T[i].map fun p => ((List.range T.length).idxOf p.1, p.2)) = T[i]
  have : T[i].map (fun p => ((List.range T.length).idxOf p.1, p.2)) = T[i].map id := List.map_congr_left fun p hp => by
    rw [range_idx (h.lt _ (List.getElem_mem hi) p hp)]
    rfl
  rw [this, List.map_id]
theorem normT_same {T : Tab} (h : TabOk T) (n : Normal T) : normT T = T := by
  have := normT_more h n []
  rwa [List.append_nil] at this
end DL

set_option Elab.async false
set_option linter.all false
set_option maxRecDepth 100000
set_option maxHeartbeats 1000000
set_option autoImplicit false
/-! Cells dropped; numbers and texts looked for in lists, dicts, sets. -/
namespace DL
open PySem PySem.Spec PyProof.Rows L2
def rel (sc1 sc0 : Scope) : Scope := PySem.relabel sc1 { scope := sc0, locals := 0, globals := 0, cells := [], qual := "", func := none, code := .none, frame := none, builtins := 0 }
theorem blkIn {N : List Str} {X : Cx} {s : Shared} {H : Hp} {sc0 sc1 scope : Scope} {cl : List (Str × Addr)} {C : Addr} {en : Env} {fp : List Addr} {own : List (Str × Nat)} (h : blkC N (rel sc1 sc0) scope own = true) (he : en.scope = sc0 := by rfl) : BlkOk N (X.blk s H sc1 (compEnvC sc1 cl C en) fp).env.scope scope own := by
  subst he
  exact blkOk_by (sc := rel sc1 en.scope) h
theorem h1u {k : Nat} {A : Around} (hr : Room k A) : A.units + 1 < cLine := by have := hr.un; omega
theorem h65 {k : Nat} {A : Around} (hr : Room k A) : A.units + 65 < cLine := by have := hr.un; omega
theorem h66 {k : Nat} {A : Around} (hr : Room k A) : A.units + 66 < cLine := by have := hr.un; omega
abbrev natD (x : Nat) : D := .int (x : Nat)
section
variable {K : PySem.W.Frag} {δ : List (Option D)} {m : Mem} {Q : D → Mem → Prop} {te ta tb tc : TE} {p : Addr} {ds : List D}
/-- the last cell is needed no more -/
theorem ew_forget (h : EW K te δ m fun d m1 => ∃ p c m2, m1 = m2 ++ [(p, c)] ∧ Q d m2) : EW K te δ m Q := fun σ H s M QQ k =>
  h σ H s M _ fun d m1 v H1 ⟨p, c, m2, e, q⟩ s1 M1 r1 => by
    subst e
    obtain ⟨M2, sb, _⟩ := M1.drop
    exact k d m2 v H1 q (s1.trans sb) M2 (r1.mono sb)
theorem sw_forget {t : TS} {P : Ps} (h : SW K t δ m { P with rt := fun d m1 => ∃ p c m2, m1 = m2 ++ [(p, c)] ∧ P.rt d m2, nx := fun δ' m1 => ∃ p c m2, m1 = m2 ++ [(p, c)] ∧ P.nx δ' m2 }) : SW K t δ m P := fun σ H s M E k =>
  h σ H s M E ⟨fun δ' m' σ' H' ⟨p, c, m2, e, q⟩ s1 S1 M1 => by
    subst e
    obtain ⟨M2, sb, _⟩ := M1.drop
    exact k.nx δ' m2 σ' H' q (s1.trans sb) (S1.mono sb) M2, fun d m1 v H1 ⟨p, c, m2, e, q⟩ s1 M1 r1 => by
    subst e
    obtain ⟨M2, sb, _⟩ := M1.drop
    exact k.rt d m2 v H1 q (s1.trans sb) M2 (r1.mono sb), fun δ' m' σ' H' q => k.bk δ' m' σ' H' q, fun δ' m' σ' H' q => k.ct δ' m' σ' H' q⟩
theorem hide_perm {m m' : Mem} {H : Hp} (h : m.Perm m') : hide m H = hide m' H := by
  funext a
  unfold hide
  have : a ∈ m.map Prod.fst ↔ a ∈ m'.map Prod.fst := (h.map Prod.fst).mem_iff
  by_cases c : a ∈ m.map Prod.fst
  · rw [if_pos c, if_pos (this.mp c)]
  · rw [if_neg c, if_neg fun z => c (this.mpr z)]
theorem MemOk.perm {m m' : Mem} {H : Hp} (h : m.Perm m') (M : MemOk K m H) : MemOk K m' H :=
  ⟨(h.map Prod.fst).nodup_iff.mp M.nd, fun p c hc => by
    have := M.at_ p c (h.mem_iff.mpr hc)
    rwa [hide_perm h] at this⟩
/-- the cells told in another sequence -/
theorem ew_perm (h : EW K te δ m fun d m1 => ∃ m2, m1.Perm m2 ∧ Q d m2) : EW K te δ m Q := fun σ H s M QQ k =>
  h σ H s M _ fun d m1 v H1 ⟨m2, e, q⟩ s1 M1 r1 => k d m2 v H1 q (by rw [← hide_perm e]; exact s1) (M1.perm e) (by rw [← hide_perm e]; exact r1)
theorem perm_end {l : Mem} {x y : Addr × Cell} : (l ++ [x] ++ [y]).Perm (l ++ [y] ++ [x]) := by
  rw [List.append_assoc, List.append_assoc]
  exact List.Perm.append_left l (List.Perm.swap y x [])
theorem sw_dputA {td ty tv : TE} {P : Ps} (h : EW K tv δ m fun z m1 => EW K td δ m1 fun x m2 => EW K ty δ m2 fun y m3 => ∃ (p : Addr) (kvs : List (Key × D)) (k : Key) (m4 : Mem), x = .adr p ∧ y = kD k ∧ MUp m3 p (.dic kvs) (.dic (putD kvs k z)) m4 ∧ kvs.length < sizeLine ∧ P.nx δ m4) : SW K (sDPut td ty tv) δ m P :=
  sw_dput fun σ H s M QQ k => h σ H s M QQ fun z m1 v H1 q => k z m1 v H1 fun σ H s M QQ k => q σ H s M QQ fun x m2 v2 H2 q => k x m2 v2 H2 fun σ H s M QQ k => q σ H s M QQ fun y m3 v3 H3 ⟨p, kvs, kk, m4, e1, e2, ⟨i, hm, em⟩, hl, q⟩ => k y m3 v3 H3 ⟨p, i, kvs, kk, e1, e2, hm, hl, em ▸ q⟩
abbrev seenD (o : List Nat) : List (Key × D) := o.map fun g => (Sum.inl ((g : Nat) : Int), D.bl true)
theorem seen_val (o : List Nat) (g : Nat) : (valD (seenD o) (.inl (g : Nat))).isSome = decide (g ∈ o) := by
  unfold valD seenD
  rw [Option.isSome_map]
  induction o with
  | nil => rfl
  | cons a o ih =>
    rw [List.map_cons, List.find?_cons]
    by_cases e : a = g
    · subst e
      simp
    · have : decide ((Sum.inl ((a : Nat) : Int) : Key) = Sum.inl ((g : Nat) : Int)) = false := decide_eq_false fun z => e (by injection z with z; omega)
      simp only [this]
      rw [ih]
      have e' : ¬ g = a := fun z => e z.symm
      simp [e']
theorem putD_new {kvs : List (Key × D)} {k : Key} {d : D} (h : ∀ p ∈ kvs, p.1 ≠ k) : putD kvs k d = kvs ++ [(k, d)] := by
  unfold putD
  have : (kvs.any fun kv => decide (kv.1 = k)) = false := by
    rw [List.any_eq_false]
    intro x hx
    simpa using h x hx
  rw [this, if_neg Bool.false_ne_true]
theorem seen_put {o : List Nat} {g : Nat} (h : g ∉ o) : putD (seenD o) (.inl (g : Nat)) (.bl true) = seenD (o ++ [g]) := by
  rw [putD_new, seenD, seenD, List.map_append]
  · rfl
  · intro p hp e
    obtain ⟨x, hx, rfl⟩ := List.mem_map.mp hp
    injection e with e
    have : x = g := by omega
    exact h (this ▸ hx)
theorem nd_map {α β : Type} {f : α → β} {l : List α} (inj : ∀ a b, f a = f b → a = b) (h : l.Nodup) : (l.map f).Nodup := List.pairwise_map.mpr (h.imp fun ne e => ne (inj _ _ e))
theorem ew_dcF {α : Type} {tk tv : TE} {vs : List Nat} {g : TG} {tt : TT} {wi : TI} (tm : Tame g vs) (h : IW K wi δ m fun ds m1 => ∃ (xs : List α) (f : α → D) (kf : α → Key) (vf : α → D), ds = xs.map f ∧ xs.length ≤ sizeLine ∧ (xs.map kf).Nodup ∧
      (∀ (x : α) (acc : List (Key × D)) (z : Addr), x ∈ xs → GW K g (f x) (wipeD δ vs) (m1 ++ [(z, .dic acc)]) fun δ2 m2 => TW K tt δ2 m2 fun b m3 => b = true ∧ EW K tk δ2 m3 fun y m4 => EW K tv δ2 m4 fun v m5 => y = kD (kf x) ∧ v = vf x ∧ m5 = m1 ++ [(z, .dic acc)]) ∧
      Q (.dic (xs.map fun x => (kf x, vf x))) m1) : EW K (tDc wi g tt tk tv vs) δ m Q := by
  refine ew_dc tm fun σ H s M QQ k => h σ H s M QQ fun J H1 m1 ds ⟨xs, f, kf, vf, ed, hl, nd, st, q⟩ => k J H1 m1 ds ⟨fun j acc m' => acc = (xs.take j).map (fun x => (kf x, vf x)) ∧ m' = m1, ⟨by simp, rfl⟩, ?_, ?_⟩
  · rintro j d acc m' z hj ⟨rfl, rfl⟩
    subst ed
    rw [List.getElem?_map] at hj
    cases c : xs[j]? with
    | none => rw [c] at hj; cases hj
    | some x =>
      rw [c] at hj
      cases hj
      have hlt := (List.getElem?_eq_some_iff.mp c).1
      refine ⟨by rw [List.length_map, List.length_take]; omega, ?_⟩
      refine fun σ H v s M r QQ k => st x _ z (List.mem_of_getElem? c) σ H v s M r QQ fun δ' m' σ' H' q => k δ' m' σ' H' fun σ H s M QQ k => q σ H s M QQ fun b m2 H2 q => k b m2 H2 ?_
      obtain ⟨rfl, q⟩ := q
      rw [if_pos rfl]
      refine fun σ H s M QQ k => q σ H s M QQ fun y m4 v4 H4 q => k y m4 v4 H4 fun σ H s M QQ k => q σ H s M QQ fun y m4 v4 H4 q => k y m4 v4 H4 ?_
      obtain ⟨rfl, rfl, rfl⟩ := q
      refine ⟨_, _, rfl, rfl, ?_, rfl⟩
      have et : xs.take (j + 1) = xs.take j ++ [x] := by rw [List.take_add_one, c]; rfl
      rw [et, List.map_append]
      refine putD_new fun p hp e => ?_
      obtain ⟨y, hy, rfl⟩ := List.mem_map.mp hp
      have n2 : ((xs.take (j + 1)).map kf).Nodup := nd.sublist ((List.take_sublist _ _).map kf)
      rw [et, List.map_append] at n2
      exact (List.nodup_append.mp n2).2.2 (kf y) (List.mem_map_of_mem hy) (kf x) (by simp) e
  · rintro acc m' ⟨rfl, rfl⟩
    subst ed
    rw [List.length_map, List.take_length]
    exact q
theorem find_key {α : Type} {kf : α → Key} {vf : α → D} {x : α} : ∀ {xs : List α}, (xs.map kf).Nodup → x ∈ xs → valD (xs.map fun x => (kf x, vf x)) (kf x) = some (vf x)
  | a :: xs, nd, h => by
    rw [List.map_cons] at nd
    obtain ⟨n1, n2⟩ := List.nodup_cons.mp nd
    unfold valD
    rw [List.map_cons, List.find?_cons]
    by_cases e : kf a = kf x
    · rcases List.mem_cons.mp h with rfl | h
      · simp
      · exact absurd (e ▸ List.mem_map_of_mem h) n1
    · have : decide (kf a = kf x) = false := decide_eq_false e
      simp only [this]
      rcases List.mem_cons.mp h with rfl | h
      · exact absurd rfl e
      · exact find_key n2 h
theorem ew_fldI {f : Str} (h : EW K ta δ m fun x m1 => ∃ (C : Addr) (fs : List (Str × D)), x = .ins C fs ∧ ∃ d : D, Cls K C ∧ NoAttr K C f ∧ fs.lookup f = some d ∧ Q d m1) : EW K (tFld K ta f) δ m Q :=
  ew_fld fun σ H s M QQ k => h σ H s M QQ fun x m1 v H1 ⟨C, fs, e, d, r⟩ => k x m1 v H1 ⟨C, fs, d, e, r⟩
theorem sw_fldA {ta tv : TE} {f : Str} {P : Ps} (h : EW K tv δ m fun d m1 => EW K ta δ m1 fun x m2 => ∃ (p C : Addr) (fs : List (Str × D)) (m3 : Mem), x = .adr p ∧ MUp m2 p (.ins C fs) (.ins C (putFD f d fs)) m3 ∧ Cls K C ∧ NoAttr K C f ∧ fs.length < 1000 ∧ P.nx δ m3) : SW K (sFld K ta tv f) δ m P :=
  sw_fld fun σ H s M QQ k => h σ H s M QQ fun d m1 v H1 q => k d m1 v H1 fun σ H s M QQ k => q σ H s M QQ fun x m2 v2 H2 ⟨p, C, fs, m3, e, ⟨i, hm, em⟩, c, n, l, q⟩ => k x m2 v2 H2 ⟨i, p, C, fs, e, hm, c, n, l, em ▸ q⟩
theorem ew_saddA {Pg : Program} {w : World} {t : TA} (h : EW K ta δ m fun x m1 => (∃ (p : Addr) (S : Key → Bool) (n : Nat), x = .adr p ∧ MAt m1 p (setC Pg w p S n)) ∧ AW K t δ m1 fun xs m2 => ∃ (p : Addr) (S : Key → Bool) (n : Nat) (k : Key) (m3 : Mem), x = .adr p ∧ xs = [kD k] ∧ MUp m2 p (setC Pg w p S n) (setC Pg w p (fun j => S j || decide (j = k)) (if S k = true then n else n + 1)) m3 ∧ n + 1 < scanBound ∧ Q .non m3) : EW K (tSAddK Pg w ta t) δ m Q :=
  ew_saddK fun σ H s M QQ k => h σ H s M QQ fun x m1 v H1 ⟨⟨p, S, n, e, ⟨i, hm⟩⟩, q⟩ => k x m1 v H1 ⟨⟨p, i, S, n, e, hm⟩, fun σ H s M QQ k => q σ H s M QQ fun xs m2 vs H2 ⟨p, S, n, kk, m3, e1, e2, ⟨i, hm, em⟩, hn, q⟩ => k xs m2 vs H2 ⟨p, i, S, n, kk, e1, e2, hm, hn, em ▸ q⟩⟩
theorem any_eqf {α : Type} [DecidableEq α] {f : α → D} (hf : ∀ x y, (f x).eqf (f y) = decide (x = y)) (o : List α) (g : α) : ((o.map f).any fun y => y.eqf (f g)) = decide (g ∈ o) := by
  induction o with
  | nil => rfl
  | cons a o ih =>
    rw [List.map_cons, List.any_cons, ih, hf]
    by_cases e : a = g
    · subst e
      simp
    · have e' : ¬ g = a := fun z => e z.symm
      simp [e, e']
theorem eqf_nat (x y : Nat) : (natD x).eqf (natD y) = decide (x = y) := by
  show ((x : Int) == (y : Int)) = _
  by_cases h : x = y
  · subst h; simp
  · rw [decide_eq_false h]
    exact beq_eq_false_iff_ne.mpr fun z => h (by omega)
theorem eqf_str (x y : Str) : (D.str x).eqf (.str y) = decide (x = y) := by
  show (x == y) = _
  by_cases h : x = y
  · subst h; simp
  · rw [decide_eq_false h]
    exact beq_eq_false_iff_ne.mpr h
theorem flat_nats (o : List Nat) : (o.map natD).all D.flat = true := by simp [D.flat]
theorem flat_strs (o : List Str) : (o.map D.str).all D.flat = true := by simp [D.flat]
section
variable {Pg : Program} {w : World}
theorem in_nM {o : List Nat} {g : Nat} (hm : MAt m p (.lst (o.map natD))) (q : Q (.bl (decide (g ∈ o))) m) : OW K (rInU Pg w K) (.int (g : Nat)) (.adr p) m Q := let ⟨_, hm⟩ := hm
  ow_or1 (rin_M hm (flat_nats o) rfl (by have := any_eqf eqf_nat o g; rw [if_neg Bool.false_ne_true]; unfold natD at this ⊢; rw [this]; exact q))
theorem nin_nM {o : List Nat} {g : Nat} (hm : MAt m p (.lst (o.map natD))) (q : Q (.bl (!decide (g ∈ o))) m) : OW K (rNotInU Pg w K) (.int (g : Nat)) (.adr p) m Q := let ⟨_, hm⟩ := hm
  ow_or1 (rin_M hm (flat_nats o) rfl (by have := any_eqf eqf_nat o g; rw [if_pos rfl]; unfold natD at this ⊢; rw [this]; exact q))
theorem in_nL {o : List Nat} {g : Nat} (q : Q (.bl (decide (g ∈ o))) m) : OW K (rInU Pg w K) (.int (g : Nat)) (.lst (o.map natD)) m Q :=
  ow_or1 (rin_L (flat_nats o) rfl (by have := any_eqf eqf_nat o g; rw [if_neg Bool.false_ne_true]; unfold natD at this ⊢; rw [this]; exact q))
theorem in_sL {o : List Str} {g : Str} (q : Q (.bl (decide (g ∈ o))) m) : OW K (rInU Pg w K) (.str g) (.lst (o.map D.str)) m Q :=
  ow_or1 (rin_L (flat_strs o) rfl (by have := any_eqf eqf_str o g; rw [if_neg Bool.false_ne_true]; rw [this]; exact q))
theorem nin_sL {o : List Str} {g : Str} (q : Q (.bl (!decide (g ∈ o))) m) : OW K (rNotInU Pg w K) (.str g) (.lst (o.map D.str)) m Q :=
  ow_or1 (rin_L (flat_strs o) rfl (by have := any_eqf eqf_str o g; rw [if_pos rfl]; rw [this]; exact q))
theorem in_D {kvs : List (Key × D)} {x : Key} (q : Q (.bl (valD kvs x).isSome) m) : OW K (rInU Pg w K) (kD x) (.dic kvs) m Q := ow_or2 (ow_or1 (rin_D (by rw [if_neg Bool.false_ne_true]; exact q)))
theorem nin_D {kvs : List (Key × D)} {x : Key} (q : Q (.bl (!(valD kvs x).isSome)) m) : OW K (rNotInU Pg w K) (kD x) (.dic kvs) m Q := ow_or2 (ow_or1 (rin_D (by rw [if_pos rfl]; exact q)))
theorem in_DM {kvs : List (Key × D)} {x : Key} (hm : MAt m p (.dic kvs)) (q : Q (.bl (valD kvs x).isSome) m) : OW K (rInU Pg w K) (kD x) (.adr p) m Q := let ⟨_, hm⟩ := hm
  ow_or2 (ow_or1 (rin_DM hm (by rw [if_neg Bool.false_ne_true]; exact q)))
theorem nin_DM {kvs : List (Key × D)} {x : Key} (hm : MAt m p (.dic kvs)) (q : Q (.bl (!(valD kvs x).isSome)) m) : OW K (rNotInU Pg w K) (kD x) (.adr p) m Q := let ⟨_, hm⟩ := hm
  ow_or2 (ow_or1 (rin_DM hm (by rw [if_pos rfl]; exact q)))
theorem in_S {S : Key → Bool} {n : Nat} {x : Key} (hm : MAt m p (setC Pg w p S n)) (q : Q (.bl (S x)) m) : OW K (rInU Pg w K) (kD x) (.adr p) m Q := let ⟨_, hm⟩ := hm
  ow_or2 (ow_or2 (ow_or1 (rin_S hm (by rw [if_neg Bool.false_ne_true]; exact q))))
theorem in_sg {c : Nat} {z : Str} (q : Q (.bl (decide (c ∈ z.cps.toList))) m) : OW K (rInU Pg w K) (.str ⟨#[c]⟩) (.str z) m Q := ow_or2 (ow_or2 (ow_or2 (ow_sgn q)))
end
/-- the first place of what is in a list of flat data -/
theorem idx_no {α : Type} [DecidableEq α] {g z : α} : ∀ {o : List α} {i : Nat}, i < o.idxOf g → o[i]? = some z → z ≠ g
  | [], i, _, hz => by simp at hz
  | a :: o, i, h, hz => by
    rw [List.idxOf_cons] at h
    by_cases e : a = g
    · have : (a == g) = true := by simpa using e
      rw [this] at h
      simp at h
    · have : (a == g) = false := by simpa using e
      rw [this] at h
      simp at h
      cases i with
      | zero =>
        simp at hz
        exact hz ▸ e
      | succ i =>
        rw [List.getElem?_cons_succ] at hz
        exact idx_no (by omega) hz
theorem mi_at {α : Type} [DecidableEq α] {f : α → D} {o : List α} {g : α} (hfl : ∀ x, (f x).fl 0 = true) (he : ∀ x y, PyData.eqv (f x).py (f y).py = decide (x = y)) (hg : g ∈ o) :
    (o.map f).all (D.fl 0) = true ∧ (f g).fl 0 = true ∧ (∃ z, (o.map f)[o.idxOf g]? = some z ∧ PyData.eqv z.py (f g).py = true) ∧ ∀ (i : Nat) (z : D), i < o.idxOf g → (o.map f)[i]? = some z → PyData.eqv z.py (f g).py = false := by
  refine ⟨by rw [List.all_eq_true]; intro x hx; obtain ⟨y, _, rfl⟩ := List.mem_map.mp hx; exact hfl y, hfl g, ⟨f g, ?_, by rw [he]; exact decide_eq_true rfl⟩, fun i z hi hz => ?_⟩
  · have hl := List.idxOf_lt_length_of_mem hg
    rw [List.getElem?_map, List.getElem?_eq_getElem hl, List.getElem_idxOf hl]
    rfl
  · rw [List.getElem?_map] at hz
    cases c : o[i]? with
    | none => rw [c] at hz; cases hz
    | some y =>
      rw [c] at hz
      cases hz
      rw [he]
      exact decide_eq_false (idx_no hi c)
theorem eqv_nat (x y : Nat) : PyData.eqv (natD x).py (natD y).py = decide (x = y) := by
  show ((x : Int) == (y : Int)) = _
  exact eqf_nat x y
theorem eqv_str (x y : Str) : PyData.eqv (D.str x).py (D.str y).py = decide (x = y) := by
  have : PyData.eqv (D.str x).py (D.str y).py = (x == y) := by simp only [D.py, PyData.eqv]
  rw [this]
  exact eqf_str x y
theorem mi_nM {o : List Nat} {g : Nat} (hm : MAt m p (.lst (o.map natD))) (hg : g ∈ o) (q : Q (.int (o.idxOf g : Nat)) m) : MW K (rIndexD K) (.adr p) [.int (g : Nat)] m Q := by
  obtain ⟨_, hm⟩ := hm
  obtain ⟨h1, h2, h3, h4⟩ := mi_at (f := natD) (fun _ => rfl) eqv_nat hg
  exact mw_indexM (n := 0) hm (by decide) h1 h2 h3 h4 q
theorem mi_nL {o : List Nat} {g : Nat} (hg : g ∈ o) (q : Q (.int (o.idxOf g : Nat)) m) : MW K (rIndexD K) (.lst (o.map natD)) [.int (g : Nat)] m Q := by
  obtain ⟨h1, h2, h3, h4⟩ := mi_at (f := natD) (fun _ => rfl) eqv_nat hg
  exact mw_indexL (n := 0) (by decide) h1 h2 h3 h4 q
theorem mi_sL {o : List Str} {g : Str} (ho : ∀ x ∈ o, PyData.strOk x = true) (hg : g ∈ o) (q : Q (.int (o.idxOf g : Nat)) m) : MW K (rIndexD K) (.lst (o.map D.str)) [.str g] m Q := by
  refine mw_indexL (n := 0) (by decide) (by rw [List.all_eq_true]; intro x hx; obtain ⟨y, hy, rfl⟩ := List.mem_map.mp hx; exact ho y hy) (ho g hg) ⟨.str g, ?_, by rw [eqv_str]; exact decide_eq_true rfl⟩ (fun i z hi hz => ?_) q
  · have hl := List.idxOf_lt_length_of_mem hg
    rw [List.getElem?_map, List.getElem?_eq_getElem hl, List.getElem_idxOf hl]
    rfl
  · rw [List.getElem?_map] at hz
    cases c : o[i]? with
    | none => rw [c] at hz; cases hz
    | some y =>
      rw [c] at hz
      cases hz
      rw [eqv_str]
      exact decide_eq_false (idx_no hi c)
/-- l[i] of a mapped list -/
theorem at_map {α : Type} {f : α → D} {xs : List α} {i : Nat} {x : α} (h : xs[i]? = some x) : L2.atI (xs.map f) ((i : Nat) : Int) = some (f x) :=
  atI_lt (Int.natCast_nonneg i) (by rw [Int.toNat_natCast, List.getElem?_map, h]; rfl)
theorem ty_ins {C : Addr} {fs : List (Str × D)} : True := trivial
end
def ansD : Option Int → D
  | none => .non
  | some a => .int a
abbrev stepD (s : Step) : D := .tup [.int (s.1 : Nat), ansD s.2]
abbrev rowD (r : List Step) : D := .lst (r.map stepD)
abbrev tabD (T : Tab) : D := .lst (T.map rowD)
end DL

set_option Elab.async false
set_option linter.all false
set_option maxRecDepth 100000
set_option maxHeartbeats 1000000
set_option autoImplicit false
/-! What may be shown, and how long it is then. -/
namespace DL
open PySem PySem.Spec PyProof.Rows L2
structure Shw (n B : Nat) (d : PyData) : Prop where
  ok : d.showable = true
  nd : d.hasDict = false
  dp : d.depth ≤ n
  le : d.shown.length ≤ B
theorem Shw.up {n n' B B' : Nat} {d : PyData} (h : Shw n B d) (a : n ≤ n') (b : B ≤ B') : Shw n' B' d := ⟨h.ok, h.nd, Nat.le_trans h.dp a, Nat.le_trans h.le b⟩
theorem shw_all {n B : Nat} : ∀ {xs : List PyData}, (∀ x ∈ xs, Shw n B x) → PyData.showableAll xs = true ∧ PyData.hasDictAll xs = false ∧ PyData.depthAll xs ≤ n ∧ ((PyData.shownAll xs).map (·.length)).sum ≤ xs.length * B ∧ (PyData.shownAll xs).length = xs.length
  | [], _ => by simp [PyData.showableAll, PyData.hasDictAll, PyData.depthAll, PyData.shownAll]
  | x :: xs, h => by
    obtain ⟨a, b, c, d, e⟩ := shw_all (xs := xs) fun y hy => h y (List.mem_cons_of_mem _ hy)
    have hx := h x List.mem_cons_self
    have h4 := hx.le
    have h3 := hx.dp
    simp only [PyData.showableAll, PyData.hasDictAll, PyData.depthAll, PyData.shownAll, List.map_cons, List.sum_cons, List.length_cons, hx.ok, hx.nd, a, b, e, Bool.and_self, Bool.or_self, true_and]
    refine ⟨by omega, ?_⟩
    have e1 : (xs.length + 1) * B = xs.length * B + B := Nat.succ_mul _ _
    refine ⟨?_, trivial⟩
    omega
theorem Shw.list {n B : Nat} {xs : List PyData} (h : ∀ x ∈ xs, Shw n B x) : Shw (n + 1) (xs.length * (B + 2) + 3) (.list xs) := by
  obtain ⟨a, b, c, d, e⟩ := shw_all h
  have l := listText_len_le (PyData.shownAll xs)
  refine ⟨by simpa only [PyData.showable] using a, by simpa only [PyData.hasDict] using b, by simp only [PyData.depth]; omega, ?_⟩
  simp only [PyData.shown]
  rw [Nat.mul_add]
  rw [e] at l
  omega
theorem Shw.tuple {n B : Nat} {xs : List PyData} (h : ∀ x ∈ xs, Shw n B x) : Shw (n + 1) (xs.length * (B + 2) + 3) (.tuple xs) := by
  obtain ⟨a, b, c, d, e⟩ := shw_all h
  have l := tupleText_len_le (PyData.shownAll xs)
  refine ⟨by simpa only [PyData.showable] using a, by simpa only [PyData.hasDict] using b, by simp only [PyData.depth]; omega, ?_⟩
  simp only [PyData.shown]
  rw [Nat.mul_add]
  rw [e] at l
  omega
theorem Shw.str {x : Str} (h : PyData.strOk x = true) : Shw 0 (10 * x.length + 2) (.str x) := by
  refine ⟨by simp only [PyData.showable], by simp only [PyData.hasDict], by simp only [PyData.depth]; omega, ?_⟩
  simp only [PyData.shown]
  refine StrLaws.reprText_len x fun c hc => ?_
  unfold PyData.strOk at h
  rw [Array.all_eq_true'] at h
  have := of_decide_eq_true (h c (by simpa using hc))
  exact Nat.lt_of_lt_of_le this (by decide)
theorem cw_show {K : PySem.W.Frag} {m : Mem} {Q : D → Mem → Prop} {x : D} {d : PyData} {n B : Nat} (h : Res K m x d) (hx : (∃ xs, x = .lst xs) ∨ (∃ xs, x = .tup xs) ∨ ∃ p, x = .adr p) (s : Shw n B d) (hn : n ≤ 64) (hB : B ≤ sizeLine) (q : Q (.str d.shown) m) : CW K (rRepr K) [x] m Q :=
  cw_repr h hx s.ok s.nd (Nat.le_trans s.dp hn) (Nat.le_trans s.le hB) q
end DL

set_option Elab.async false
set_option linter.all false
set_option maxRecDepth 100000
set_option maxHeartbeats 1000000
set_option autoImplicit false
/-! More operations: the last bit, a text so often. -/
namespace DL
open PySem PySem.Spec PyProof.Rows L2
def rOdd : R2 := fun x y H Q => ∃ n : Nat, x = .int (n : Int) ∧ y = .int 1 ∧ Q (.int ((n % 2 : Nat) : Int)) H
theorem op_odd2 {X : Cx} : OpR X (binaryOp .BitAnd) rOdd := op_odd
section
variable {K : PySem.W.Frag} {m : Mem} {Q : D → Mem → Prop}
theorem ow_odd {n : Nat} (q : Q (.int ((n % 2 : Nat) : Int)) m) : OW K rOdd (.int (n : Nat)) (.int 1) m Q := fun H v w M a b QQ k => by
  cases a
  cases b
  exact ⟨n, rfl, rfl, k _ m _ H q (Sub.refl _) M (.int _)⟩
theorem ow_mulS {x : Str} {i : Int} (h : PySem.MulOk x i) (q : Q (.str (Txt.mul x i)) m) : OW K rMulU (.str x) (.int i) m Q := ow_or2 (ow_or2 fun H v w M a b QQ k => by
  cases a
  cases b
  exact ⟨x, i, rfl, rfl, h, k _ m _ H q (Sub.refl _) M (.str _)⟩)
end
end DL

set_option Elab.async false
set_option linter.all false
set_option maxRecDepth 100000
set_option maxHeartbeats 1000000
set_option autoImplicit false
/-! Calls in any shape (positions, keywords, defaults); own ==; lists that may be cells. -/
namespace DL
open PySem PySem.Spec PyProof.Rows L2
def pickN {α : Type} (idx : List Nat) (xs : List α) : List α := idx.filterMap fun i => xs[i]?
theorem RdL.none_of {K : PySem.W.Frag} {F : Hp} {vs : List V} {ds : List D} {i : Nat} (r : RdL K F vs ds) (e : ds[i]? = none) : vs[i]? = none := by
  have l := r.length
  rw [List.getElem?_eq_none_iff] at e ⊢
  omega
theorem pick_rd {K : PySem.W.Frag} {F : Hp} {vs : List V} {ds : List D} (r : RdL K F vs ds) : ∀ idx : List Nat, RdL K F (pickN idx vs) (pickN idx ds)
  | [] => .nil
  | i :: idx => by
    have ih := pick_rd r idx
    unfold pickN at ih ⊢
    cases c : ds[i]? with
    | none => rw [List.filterMap_cons_none (by exact r.none_of c), List.filterMap_cons_none (by exact c)]; exact ih
    | some d =>
      obtain ⟨v, a, b⟩ := r.get c
      rw [List.filterMap_cons_some (by exact a), List.filterMap_cons_some (by exact c)]
      exact .cons b ih
theorem pick_vals {vs : List V} {us : List Value} (r : Vals vs us) : ∀ idx : List Nat, Vals (pickN idx vs) (pickN idx us)
  | [] => .nil
  | i :: idx => by
    have ih := pick_vals r idx
    unfold pickN at ih ⊢
    cases c : vs[i]? with
    | none => rw [List.filterMap_cons_none (by exact c), List.filterMap_cons_none (by exact r.none_of c)]; exact ih
    | some d =>
      obtain ⟨v, a, b⟩ := r.get c
      rw [List.filterMap_cons_some (by exact c), List.filterMap_cons_some (by exact a)]
      exact .cons b ih
/-- how a call with n values and the keywords ks binds; dd the defaults -/
def KBS (K : PySem.W.Frag) (f : Addr) (ps : List Str) (n : Nat) (ks : List Str) (idx : List Nat) (dd : List D) : Prop := ∀ fd, FdAt K f fd → ∃ (its : List Value) (dvs : List V), (∀ F, RdL K F dvs dd) ∧ Vals dvs its ∧
  ∀ (s : Shared) (us ws : List Value), K.In s.heap → us.length = n → ws.length = ks.length → BindsTo s fd ⟨us, ks.zip ws⟩ (ps.zip (pickN idx (us ++ (ws ++ its))))
theorem KBS.kbn {K : PySem.W.Frag} {f : Addr} {ps ks : List Str} {n : Nat} {idx : List Nat} {dd : List D} {fd : FuncData} (h : KBS K f ps n ks idx dd) (e : FdAt K f fd) :
    ∃ (its : List Value) (dvs : List V), (∀ F, RdL K F dvs dd) ∧ KBn K fd ps n ks (fun us ws => pickN idx (us ++ (ws ++ its))) (fun vs zs => pickN idx (vs ++ (zs ++ dvs))) := by
  obtain ⟨its, dvs, hd, hv, hb⟩ := h fd e
  exact ⟨its, dvs, hd, hb, fun r1 r2 => pick_vals (r1.append (r2.append hv)) idx⟩
section
variable {K : PySem.W.Frag} {x qual : Str} {st : Stmt} {f T : Addr} {ps ks : List Str} {oc kV dc pm cd ct oT : Value} {od an dT : Option Addr} {sl sT : Array (Option Value)} {its : Array Value} {nT n : Nat} {idx : List Nat} {dd : List D} {dvs : List V}
theorem kbs_mk (l : K.lookup f = some ⟨oc, od, .func (PySem.W.fnOf x qual (defArgs st) (defBody st) (defScope st) .none kV dc pm an cd ct), sl⟩)
    (b : ∀ (kV dc pm : Value) (an : Option Addr) (cd ct : Value) (us ws : List Value), us.length = n → ws.length = ks.length → bindArgs (PySem.W.fnOf x qual (defArgs st) (defBody st) (defScope st) .none kV dc pm an cd ct) ⟨us, ks.zip ws⟩ = pure (ps.zip (pickN idx (us ++ (ws ++ []))))) : KBS K f ps n ks idx [] := fun fd e => by
  rw [← fdAt_inj ⟨oc, od, sl, l⟩ e]
  exact ⟨[], [], fun _ => .nil, .nil, fun s us ws _ l1 l2 => BindsTo.of_eq (b kV dc pm an cd ct us ws l1 l2)⟩
theorem kbs_mkD (l : K.lookup f = some ⟨oc, od, .func (PySem.W.fnOf x qual (defArgs st) (defBody st) (defScope st) (.ref T) kV dc pm an cd ct), sl⟩) (lT : K.lookup T = some ⟨oT, dT, .seq its nT, sT⟩) (hd : ∀ F, RdL K F dvs dd) (hv : Vals dvs its.toList)
    (b : ∀ (kV dc pm : Value) (an : Option Addr) (cd ct : Value) (us ws : List Value), us.length = n → ws.length = ks.length → ∃ k, bindArgs (PySem.W.fnOf x qual (defArgs st) (defBody st) (defScope st) (.ref T) kV dc pm an cd ct) ⟨us, ks.zip ws⟩ = seqItems? (.ref T) >>= k ∧ k (some its) = pure (ps.zip (pickN idx (us ++ (ws ++ its.toList))))) : KBS K f ps n ks idx dd := fun fd e => by
  rw [← fdAt_inj ⟨oc, od, sl, l⟩ e]
  refine ⟨its.toList, dvs, hd, hv, fun s us ws kin l1 l2 => ?_⟩
  obtain ⟨k, e1, e2⟩ := b kV dc pm an cd ct us ws l1 l2
  refine BindsTo.of_looks fun M => ?_
  rw [e1]
  exact looks_items kin lT rfl (.of_pure e2)
end
/-! ### the readings of such calls -/
def tFunS (K : PySem.W.Frag) (n m : Nat) (idx : List Nat) (dd : List D) (sp : Sp) (E : XK) (t tk : TA) : TE := fun σ H Q => t σ H fun vs H1 => tk σ H1 fun zs H2 => vs.length = n ∧ zs.length = m ∧ ∀ dvs, (∀ F, RdL K F dvs dd) → sp (pickN idx (vs ++ (zs ++ dvs))) H2 Q E
def tMethS (K : PySem.W.Frag) (C : Addr) (nm : Str) (n m : Nat) (idx : List Nat) (dd : List D) (sp : Sp) (E : XK) (ta : TE) (t tk : TA) : TE := fun σ H Q => ta σ H fun x H1 => ∃ a dx fs, x = .ref a ∧ H1 a = some (.ins C dx fs) ∧ fs.lookup nm = none ∧
  t σ H1 fun vs H2 => tk σ H2 fun zs H3 => vs.length = n ∧ zs.length = m ∧ ∀ dvs, (∀ F, RdL K F dvs dd) → sp (pickN idx (x :: (vs ++ (zs ++ dvs)))) H3 Q E
def tMakeS (K : PySem.W.Frag) (C : Addr) (n m : Nat) (idx : List Nat) (dd : List D) (sp : Sp) (E : XK) (t tk : TA) : TE := fun σ H Q => t σ H fun vs H1 => tk σ H1 fun zs H2 => vs.length = n ∧ zs.length = m ∧ ∀ dvs, (∀ F, RdL K F dvs dd) →
  ∀ x dx, H2 x = none → H2 dx = none → dx ≠ x → sp (pickN idx (.ref x :: (vs ++ (zs ++ dvs)))) (upd (upd H2 dx (.own x)) x (.ins C dx [])) (fun v H3 => v = .non ∧ Q (.ref x) H3) E
section
variable {X : Cx} {k n : Nat} {f C : Addr} {ps ks : List Str} {Pf : FS} {x nm : Str} {p pos apos : Pos} {e o : Expr} {es : List Expr} {kws : List Keyword} {ta : TE} {t tk : TA} {idx : List Nat} {dd : List D} (K : PySem.W.Frag) (hK : X.K = K)
include hK
theorem kx_funS (D : Def X.prog X.w K X.mg X.base k f ps Pf) (kb : KBS K f ps n ks idx dd) (hr : Room k X.A) (hg : Gl X x) (hm : X.mg x = some (.ref f)) (hk : PySem.W.keepIn K (.ref f) = true) (ha : PA X (e :: es) t) (hkw : PK X kws tk)
    (hall : (backToKw pos (keywordEach kws X.env)).all (·.1.isSome) = true := by rfl) (hks : (backToKw pos (keywordEach kws X.env)).filterMap (·.1) = ks := by rfl)
    (hdb : (x == ("__debug__" : Str)) = false := by decide) (he : starEach (e :: es) X.env = (false, eval e X.env) :: starEach es X.env := by rfl)
    (hpl : ((backTo pos (starEach (e :: es) X.env)).any (·.1) || (backToKw pos (keywordEach kws X.env)).any (·.1.isNone)) = false := by rfl) :
    PE X (.Call (.Name x p) (e :: es) kws pos) (tFunS K n ks.length idx dd (spOf K Pf) E0 t tk) := by
  subst hK
  obtain ⟨fd, F, _, fe⟩ := D
  obtain ⟨its, dvs, hd, kbn⟩ := kb.kbn fe
  refine ⟨fun pins s σ H Q I h => ?_⟩
  refine wpAny_Call_Name_kw (ld_glob I hg hm ?_ hdb)
  refine PySem.W.callWith_KW (h₀ := X.base) I.ok.mod.kin hk hall (thn (ha.run pos pins s σ H _ I h) fun us s1 ⟨vs, H1, I1, r, q⟩ => ?_) hpl he
  refine thn (hkw.run pos pins s1 σ H1 _ I1 q) fun ws s2 ⟨zs, H2, I2, rz, l1, l2, q2⟩ => ⟨I2.kIn, ?_⟩
  rw [hks]
  exact run_fnN F hr kbn pass0 I2 r rz l1 l2 (q2 dvs hd)
theorem kx_funS0 (D : Def X.prog X.w K X.mg X.base k f ps Pf) (kb : KBS K f ps 0 ks idx dd) (hr : Room k X.A) (hg : Gl X x) (hm : X.mg x = some (.ref f)) (hk : PySem.W.keepIn K (.ref f) = true) (hkw : PK X kws tk)
    (hall : (backToKw pos (keywordEach kws X.env)).all (·.1.isSome) = true := by rfl) (hks : (backToKw pos (keywordEach kws X.env)).filterMap (·.1) = ks := by rfl)
    (hdb : (x == ("__debug__" : Str)) = false := by decide)
    (hpl : ((backTo pos (starEach [] X.env)).any (·.1) || (backToKw pos (keywordEach kws X.env)).any (·.1.isNone)) = false := by rfl) :
    PE X (.Call (.Name x p) [] kws pos) (tFunS K 0 ks.length idx dd (spOf K Pf) E0 tNil tk) := by
  subst hK
  obtain ⟨fd, F, _, fe⟩ := D
  obtain ⟨its, dvs, hd, kbn⟩ := kb.kbn fe
  refine ⟨fun pins s σ H Q I h => ?_⟩
  refine wpAny_Call_Name_kw (ld_glob I hg hm ?_ hdb)
  refine PySem.W.callWith_KW0 (h₀ := X.base) I.ok.mod.kin hk hall ?_ hpl
  refine thn (hkw.run pos pins s σ H _ I h) fun ws s2 ⟨zs, H2, I2, rz, l1, l2, q2⟩ => ⟨I2.kIn, ?_⟩
  rw [hks]
  exact run_fnN (us := []) (vs := []) F hr kbn pass0 I2 .nil rz l1 l2 (q2 dvs hd)
theorem kx_methS {pl : Sem Bool} (he : PE X o ta) (c : Cls K C) (hm : Meth K C nm f) (D : Def X.prog X.w K X.mg X.base k f ps Pf) (kb : KBS K f ps (n + 1) ks idx dd) (hr : Room k X.A) (ha : PA X (e :: es) t) (hkw : PK X kws tk)
    (hall : (backToKw pos (keywordEach kws X.env)).all (·.1.isSome) = true := by rfl) (hks : (backToKw pos (keywordEach kws X.env)).filterMap (·.1) = ks := by rfl)
    (hst : starEach (e :: es) X.env = (false, eval e X.env) :: starEach es X.env := by rfl)
    (hpl : ((backTo pos (starEach (e :: es) X.env)).any (·.1) || (backToKw pos (keywordEach kws X.env)).any (·.1.isNone)) = false := by rfl)
    (ht : eval (.Call (.Attribute o nm apos) (e :: es) kws pos) X.env = (do
      let ov ← eval o X.env
      standAt apos.atName
      let (f, first) ← holding [ov] (getMethod ov nm pl)
      callWith pos f first (backTo pos (starEach (e :: es) X.env)) (backToKw pos (keywordEach kws X.env))) := by rfl) :
    PE X (.Call (.Attribute o nm apos) (e :: es) kws pos) (tMethS K C nm n ks.length idx dd (spOf K Pf) E0 ta t tk) := by
  subst hK
  obtain ⟨fd, F, _, fe⟩ := D
  obtain ⟨its, dvs, hd, kbn⟩ := kb.kbn fe
  refine ⟨fun pins s σ H Q I h => ?_⟩
  refine PySem.W.methodCall_KW (pl := pl) (thn (he.run pins s σ H _ I h) fun u s1 ⟨x, H1, I1, rx, a, dx, fs, ex, ea, l, q⟩ => ?_) ht
  subst ex
  obtain rfl : u = Value.ref a := rx
  refine getmeth_ok I1 ea c hm l ?_
  refine PySem.W.callWith_KW (first := [.ref a]) (h₀ := X.base) I.ok.mod.kin hm.kp hall (thn (ha.run pos pins s1 σ H1 _ I1 q) fun us s2 ⟨vs, H2, I2, r, q2⟩ => ?_) hpl hst
  refine thn (hkw.run pos pins s2 σ H2 _ I2 q2) fun ws s3 ⟨zs, H3, I3, rz, l1, l2, q3⟩ => ⟨I3.kIn, ?_⟩
  rw [hks]
  exact run_fnN (us := .ref a :: us) (vs := .ref a :: vs) F hr kbn pass0 I3 (.cons rfl r) rz (congrArg Nat.succ l1) l2 (q3 dvs hd)
theorem kx_methS0 {pl : Sem Bool} (he : PE X o ta) (c : Cls K C) (hm : Meth K C nm f) (D : Def X.prog X.w K X.mg X.base k f ps Pf) (kb : KBS K f ps (0 + 1) ks idx dd) (hr : Room k X.A) (hkw : PK X kws tk)
    (hall : (backToKw pos (keywordEach kws X.env)).all (·.1.isSome) = true := by rfl) (hks : (backToKw pos (keywordEach kws X.env)).filterMap (·.1) = ks := by rfl)
    (hpl : ((backTo pos (starEach [] X.env)).any (·.1) || (backToKw pos (keywordEach kws X.env)).any (·.1.isNone)) = false := by rfl)
    (ht : eval (.Call (.Attribute o nm apos) [] kws pos) X.env = (do
      let ov ← eval o X.env
      standAt apos.atName
      let (f, first) ← holding [ov] (getMethod ov nm pl)
      callWith pos f first (backTo pos (starEach [] X.env)) (backToKw pos (keywordEach kws X.env))) := by rfl) :
    PE X (.Call (.Attribute o nm apos) [] kws pos) (tMethS K C nm 0 ks.length idx dd (spOf K Pf) E0 ta tNil tk) := by
  subst hK
  obtain ⟨fd, F, _, fe⟩ := D
  obtain ⟨its, dvs, hd, kbn⟩ := kb.kbn fe
  refine ⟨fun pins s σ H Q I h => ?_⟩
  refine PySem.W.methodCall_KW (pl := pl) (thn (he.run pins s σ H _ I h) fun u s1 ⟨x, H1, I1, rx, a, dx, fs, ex, ea, l, q⟩ => ?_) ht
  subst ex
  obtain rfl : u = Value.ref a := rx
  refine getmeth_ok I1 ea c hm l ?_
  refine PySem.W.callWith_KW0 (first := [.ref a]) (h₀ := X.base) I.ok.mod.kin hm.kp hall ?_ hpl
  refine thn (hkw.run pos pins s1 σ H1 _ I1 q) fun ws s3 ⟨zs, H3, I3, rz, l1, l2, q3⟩ => ⟨I3.kIn, ?_⟩
  rw [hks]
  exact run_fnN (us := [.ref a]) (vs := [.ref a]) F hr kbn pass0 I3 (.cons rfl .nil) rz rfl l2 (q3 dvs hd)
theorem kx_makeS (M : Mk K C f) (D : Def X.prog X.w K X.mg X.base k f ps Pf) (kb : KBS K f ps (n + 1) ks idx dd) (hr : Room (k + 1) X.A) (hg : Gl X x) (hm : X.mg x = some (.ref C)) (ha : PA X (e :: es) t) (hkw : PK X kws tk)
    (hall : (backToKw pos (keywordEach kws X.env)).all (·.1.isSome) = true := by rfl) (hks : (backToKw pos (keywordEach kws X.env)).filterMap (·.1) = ks := by rfl)
    (hdb : (x == ("__debug__" : Str)) = false := by decide) (he : starEach (e :: es) X.env = (false, eval e X.env) :: starEach es X.env := by rfl)
    (hpl : ((backTo pos (starEach (e :: es) X.env)).any (·.1) || (backToKw pos (keywordEach kws X.env)).any (·.1.isNone)) = false := by rfl) :
    PE X (.Call (.Name x p) (e :: es) kws pos) (tMakeS K C n ks.length idx dd (spOf K Pf) E0 t tk) := by
  subst hK
  obtain ⟨fd, F, _, fe⟩ := D
  obtain ⟨its, dvs, hd, kbn⟩ := kb.kbn fe
  refine ⟨fun pins s σ H Q I h => ?_⟩
  refine wpAny_Call_Name_kw (ld_glob I hg hm ?_ hdb)
  refine PySem.W.callWith_KW (h₀ := X.base) I.ok.mod.kin M.kp hall (thn (ha.run pos pins s σ H _ I h) fun us s1 ⟨vs, H1, I1, r, q⟩ => ?_) hpl he
  refine thn (hkw.run pos pins s1 σ H1 _ I1 q) fun ws s2 ⟨zs, H2, I2, rz, l1, l2, q2⟩ => ⟨I2.kIn, ?_⟩
  rw [hks]
  exact run_makeN M F hr kbn pass0 I2 r rz l1 l2 (q2 dvs hd)
theorem kx_makeS0 (M : Mk K C f) (D : Def X.prog X.w K X.mg X.base k f ps Pf) (kb : KBS K f ps (0 + 1) ks idx dd) (hr : Room (k + 1) X.A) (hg : Gl X x) (hm : X.mg x = some (.ref C)) (hkw : PK X kws tk)
    (hall : (backToKw pos (keywordEach kws X.env)).all (·.1.isSome) = true := by rfl) (hks : (backToKw pos (keywordEach kws X.env)).filterMap (·.1) = ks := by rfl)
    (hdb : (x == ("__debug__" : Str)) = false := by decide)
    (hpl : ((backTo pos (starEach [] X.env)).any (·.1) || (backToKw pos (keywordEach kws X.env)).any (·.1.isNone)) = false := by rfl) :
    PE X (.Call (.Name x p) [] kws pos) (tMakeS K C 0 ks.length idx dd (spOf K Pf) E0 tNil tk) := by
  subst hK
  obtain ⟨fd, F, _, fe⟩ := D
  obtain ⟨its, dvs, hd, kbn⟩ := kb.kbn fe
  refine ⟨fun pins s σ H Q I h => ?_⟩
  refine wpAny_Call_Name_kw (ld_glob I hg hm ?_ hdb)
  refine PySem.W.callWith_KW0 (h₀ := X.base) I.ok.mod.kin M.kp hall ?_ hpl
  refine thn (hkw.run pos pins s σ H _ I h) fun ws s2 ⟨zs, H2, I2, rz, l1, l2, q2⟩ => ⟨I2.kIn, ?_⟩
  rw [hks]
  exact run_makeN (us := []) (vs := []) M F hr kbn pass0 I2 .nil rz l1 l2 (q2 dvs hd)
end
section
variable {K : PySem.W.Frag} {δ : List (Option D)} {m : Mem} {Q : D → Mem → Prop} {ta te : TE} {t tk : TA} {Pf : FS} {E : XK} {n l : Nat} {idx : List Nat} {dd : List D} {C : Addr} {nm : Str}
theorem ew_funS (h : AW K t δ m fun ds m2 => AW K tk δ m2 fun es m3 => ds.length = n ∧ es.length = l ∧ Pf (pickN idx (ds ++ (es ++ dd))) m3 Q) : EW K (tFunS K n l idx dd (spOf K Pf) E t tk) δ m Q := fun σ H s M QQ k =>
  h σ H s M _ fun ds m2 vs H2 q2 s2 M2 r2 => q2 σ H2 (s.mono s2) M2 _ fun es m3 zs H3 ⟨l1, l2, q3⟩ s3 M3 r3 =>
    ⟨by rw [r2.length, l1], by rw [r3.length, l2], fun dvs hd => ⟨_, m3, Q, pick_rd ((r2.mono s3).append (r3.append (hd _))) idx, M3, q3, fun d m' v H' q s4 M' r => k d m' v H' q (s2.trans (s3.trans s4)) M' r⟩⟩
theorem ew_methS (h : EW K ta δ m fun x m1 => ∃ (fs : List (Str × D)), x = .ins C fs ∧ fs.lookup nm = none ∧ AW K t δ m1 fun ds m2 => AW K tk δ m2 fun es m3 => ds.length = n ∧ es.length = l ∧ Pf (pickN idx (x :: (ds ++ (es ++ dd)))) m3 Q) : EW K (tMethS K C nm n l idx dd (spOf K Pf) E ta t tk) δ m Q := fun σ H s M QQ k =>
  h σ H s M _ fun x m1 v H1 ⟨fs, ex, lk, q⟩ s1 M1 r1 => by
    have r1' := r1
    rw [ex] at r1'
    obtain ⟨a, dx, xs, ev, e, nms, r⟩ := ins_at r1'
    subst ev
    refine ⟨a, dx, xs, rfl, e, (lookup_rel (f := nm) nms r).2 lk, q σ H1 (s.mono s1) M1 _ fun ds m2 vs H2 q2 s2 M2 r2 => q2 σ H2 (s.mono (s1.trans s2)) M2 _ fun es m3 zs H3 ⟨l1, l2, q3⟩ s3 M3 r3 => ?_⟩
    exact ⟨by rw [r2.length, l1], by rw [r3.length, l2], fun dvs hd => ⟨_, m3, Q, pick_rd (.cons (r1.mono (s2.trans s3)) ((r2.mono s3).append (r3.append (hd _)))) idx, M3, q3, fun d m' v H' q s4 M' r => k d m' v H' q (s1.trans (s2.trans (s3.trans s4))) M' r⟩⟩
theorem ew_makeS (h : AW K t δ m fun ds m2 => AW K tk δ m2 fun es m3 => ds.length = n ∧ es.length = l ∧ ∀ p, Pf (pickN idx (.adr p :: (ds ++ (es ++ dd)))) (m3 ++ [(p, .ins C [])]) fun d m4 => d = .non ∧ ∃ (m5 : Mem) (fs : List (Str × D)), m4 = m5 ++ [(p, .ins C fs)] ∧ Q (.ins C fs) m5) : EW K (tMakeS K C n l idx dd (spOf K Pf) E t tk) δ m Q := fun σ H s M QQ k =>
  h σ H s M _ fun ds m2 vs H0 q2 s2 M2 r2 => q2 σ H0 (s.mono s2) M2 _ fun es m1 zs H1 ⟨l1, l2, q1⟩ s3 M1 r3 => by
    refine ⟨by rw [r2.length, l1], by rw [r3.length, l2], fun dvs hd => ?_⟩
    intro x dx hx hdx hne
    have hx2 : upd H1 dx (.own x) x = none := by rw [upd_ne (Ne.symm hne)]; exact hx
    obtain ⟨M2', s2'⟩ := M1.new (o := .own x) hdx
    have e : hide (m1 ++ [(x, Cell.ins C [])]) (upd (upd H1 dx (.own x)) x (.ins C dx [])) = hide m1 (upd H1 dx (.own x)) := hide_cell hx2
    have M3 : MemOk K (m1 ++ [(x, Cell.ins C [])]) (upd (upd H1 dx (.own x)) x (.ins C dx [])) := M2'.cell (c := .ins C []) hx2 ⟨dx, [], upd_same, rfl, .nil⟩
    have s3' : L2.Rd = L2.Rd := rfl
    have s5 : DL.Sub (hide m1 H1) (hide (m1 ++ [(x, Cell.ins C [])]) (upd (upd H1 dx (.own x)) x (.ins C dx []))) := by rw [e]; exact s2'
    refine ⟨_, m1 ++ [(x, .ins C [])], _, pick_rd (.cons (.adr x) (((r2.mono s3).mono s5).append ((r3.mono s5).append (hd _)))) idx, M3, q1 x, fun d m' v H' ⟨ed, m4, fs, em, q⟩ s4 M4 r4 => ?_⟩
    subst ed
    subst em
    cases r4
    obtain ⟨M5, sb, hp⟩ := M4.drop
    exact ⟨rfl, k _ m4 _ H' q (s2.trans (s3.trans (s5.trans (s4.trans sb)))) M5 (still_of (d := .ins C fs) (M4.at_ x (.ins C fs) (by simp)) rfl sb hp)⟩
/-- the list within a told tuple is given up: data from now on -/
theorem ew_stillT (h : EW K te δ m fun x m1 => ∃ p c d y m2, x = .tup [.adr p, y] ∧ m1 = m2 ++ [(p, c)] ∧ c.d = some d ∧ Q (.tup [d, y]) m2) : EW K te δ m Q := fun σ H s M QQ k =>
  h σ H s M _ fun x m1 v H1 ⟨p, c, d, y, m2, e1, e2, ec, q⟩ s1 M1 r1 => by
    subst e1
    subst e2
    obtain ⟨M2, sb, hp⟩ := M1.drop
    cases r1 with
    | tup e r =>
      cases r with
      | cons ra r =>
        cases r with
        | cons rb r =>
          cases r
          cases ra
          exact k _ m2 _ H1 q (s1.trans sb) M2 (.tup (sb.sqt e) (.cons (still_of (M1.at_ p c (by simp)) ec sb hp) (.cons (rb.mono sb) .nil)))
end
/-! ### own == -/
def rOwnEq (C : Addr) (sp : Sp) : R2 := fun x y H Q => ∃ a b dx dy fs gs, x = .ref a ∧ y = .ref b ∧ H a = some (.ins C dx fs) ∧ H b = some (.ins C dy gs) ∧ sp [.ref a, .ref b] H (fun v H' => ∃ r, v = .bl r ∧ Q v H') E0
section
variable {X : Cx} {k : Nat} {f C : Addr} {ps : List Str} {Pf : FS}
theorem op_ownEq (hs : PySem.W.findIn X.K (.ref C) "__eq__" = some (some (.ref f)) ∧ PySem.W.isFn X.K (.ref f) = true) (D : Def X.prog X.w X.K X.mg X.base k f ps Pf) (hr : Room k X.A) : OpR X (compareOp .Eq) (rOwnEq C (spOf X.K Pf)) := by
  obtain ⟨fd, F, hb, _⟩ := D
  intro pins s σ H x y v u Q I rx ry h
  obtain ⟨a, b, dx, dy, fs, gs, rfl, rfl, ha, hb', q⟩ := h
  cases rx
  cases ry
  obtain ⟨mA, J, _⟩ := ins_get I.hok ha
  obtain ⟨mB, J', _⟩ := ins_get I.hok hb'
  obtain ⟨od, J, _⟩ := J.look
  obtain ⟨od', J', _⟩ := J'.look
  obtain ⟨mm, hF⟩ := I.fr
  show wpAny (model X.prog X.w) X.A (richCompare .Eq (.ref a) (.ref b)) (EP X pins σ Q) X.xe s
  refine PySem.W.cmp_K (op := .Eq) (tb := .ref C) hr.units0 hF I.ok.mod.kin J J'.type (by simp [PySem.W.notFirst]) hs.1 hs.2 ?_
  have hl := F.len _ _ _ _ q
  have r2 : Vals [V.ref a, V.ref b] [Value.ref a, Value.ref b] := .cons rfl (.cons rfl .nil)
  refine wpAny_call (codeAny_mono (F.run X.A X.stack s H ⟨[.ref a, .ref b], []⟩ [.ref a, .ref b] [.ref a, .ref b] _ E0 hr I.env0 (by
    have := hb s [.ref a, .ref b] I.kIn (by simpa using hl)
    simpa using this) r2 q) fun r s' hq => ?_)
  cases r with
  | error e => exact hq.elim
  | ok fl =>
    cases fl with
    | ret w =>
      obtain ⟨z, H', I', rz, r, ez, q2⟩ := I.after hq
      subst ez
      cases rz
      exact ⟨.bl r, H', I', rfl, q2⟩
    | next => exact False.elim hq
    | brk => exact False.elim hq
    | cont => exact False.elim hq
end
theorem kx_ownEq {X : Cx} {k : Nat} {f C : Addr} {ps : List Str} {Pf : FS} (K : PySem.W.Frag) (hK : X.K = K) (hs : PySem.W.findIn K (.ref C) "__eq__" = some (some (.ref f)) ∧ PySem.W.isFn K (.ref f) = true) (D : Def X.prog X.w K X.mg X.base k f ps Pf) (hr : Room k X.A) : OpR X (compareOp .Eq) (rOwnEq C (spOf K Pf)) := by
  subst hK; exact op_ownEq hs D hr
theorem ow_own {K : PySem.W.Frag} {m : Mem} {Q : D → Mem → Prop} {C : Addr} {Pf : FS} {fs gs : List (Str × D)} (h : Pf [.ins C fs, .ins C gs] m fun d m' => ∃ b, d = .bl b ∧ Q d m') : OW K (rOwnEq C (spOf K Pf)) (.ins C fs) (.ins C gs) m Q := fun H v w M a b QQ k => by
  obtain ⟨x, dx, xs, rfl, e, nm, r⟩ := ins_at a
  obtain ⟨y, dy, ys, rfl, e', nm', r'⟩ := ins_at b
  refine ⟨x, y, dx, dy, xs, ys, rfl, rfl, e, e', _, m, _, .cons a (.cons b .nil), M, h, fun d m' v H' ⟨z, ed, q⟩ s2 M2 r2 => ?_⟩
  subst ed
  cases r2
  exact ⟨z, rfl, k _ m' _ H' q s2 M2 (.bl z)⟩
/-! ### isinstance -/
section
variable {K : PySem.W.Frag} {m : Mem} {Q : D → Mem → Prop}
theorem cw_isiT {ds : List D} {c : String} {b : Bool} (hk : kitB "tuple" c = some b) (q : Q (.bl b) m) : CW K (rIsi K) [.tup ds, .ty c] m Q := fun H vs M a QQ k => by
  cases a with
  | cons a a2 =>
    cases a2 with
    | cons a2 a3 =>
      cases a3
      cases a2
      have fin := k _ m _ H q (Sub.refl _) M (.bl b)
      obtain ⟨p, xs, rfl, e, r⟩ := tup_at a
      rcases e with e | ⟨o, its, n, lk, oc, _⟩
      · rcases e with e | ⟨o, e⟩
        · exact ⟨_, _, _, _, b, rfl, .ty c, .base (.tup e), kit_ty hk, fin⟩
        · exact ⟨_, _, _, _, b, rfl, .ty c, .fTuple e, kit_ty hk, fin⟩
      · exact ⟨_, _, _, _, b, rfl, .ty c, .kTuple lk oc, kit_ty hk, fin⟩
theorem cw_isiM {p : Addr} {ds : List D} {c : String} {b : Bool} (hm : MAt m p (.lst ds)) (hk : kitB "list" c = some b) (q : Q (.bl b) m) : CW K (rIsi K) [.adr p, .ty c] m Q := fun H vs M a QQ k => by
  cases a with
  | cons a a2 =>
    cases a2 with
    | cons a2 a3 =>
      cases a3
      cases a2
      cases a
      obtain ⟨i, hm⟩ := hm
      obtain ⟨xs, e, r⟩ := cell_at M hm
      exact ⟨_, _, _, _, b, rfl, .ty c, .base (.lst e), kit_ty hk, k _ m _ H q (Sub.refl _) M (.bl b)⟩
/-- what isinstance asks of an own class -/
structure IsOwn (K : PySem.W.Frag) (C : Addr) : Prop where
  ha : PySem.W.findIn K (.ref C) "__class__" = some (some (.builtin "object.__class__"))
  hn : PySem.W.specialIn K (.builtin "object.__class__") "__get__" = some (some (.builtin "getset_descriptor.__get__"))
  tk : PySem.W.takesIn K (.builtin "object.__class__") = some true
  mro : PySem.W.mroIn K C (.type "object") = some true
theorem cw_isiO {C : Addr} {fs : List (Str × D)} (cl : Cls K C) (io : IsOwn K C) (q : Q (.bl true) m) : CW K (rIsi K) [.ins C fs, .adr C] m Q := fun H vs M a QQ k => by
  cases a with
  | cons a a2 =>
    cases a2 with
    | cons a2 a3 =>
      cases a3
      cases a2
      obtain ⟨p, dx, xs, rfl, e, nm, r⟩ := ins_at a
      refine ⟨_, _, .ref C, .ref C, true, rfl, .own C, .base (.ins e cl io.ha io.hn io.tk io.mro), ?_, k _ m _ H q (Sub.refl _) M (.bl true)⟩
      unfold PySem.W.kitOne
      rw [if_pos (by simp)]
/-! ### a list that is data or a cell -/
def SeqIn (m : Mem) (x : D) (ds : List D) : Prop := x = .lst ds ∨ ∃ p, x = .adr p ∧ MAt m p (.lst ds)
theorem SeqIn.app {m r : Mem} {x : D} {ds : List D} (h : SeqIn m x ds) : SeqIn (m ++ r) x ds := h.imp id fun ⟨p, e, h⟩ => ⟨p, e, h.app⟩
theorem SeqIn.of {ds : List D} : SeqIn m (.lst ds) ds := .inl rfl
theorem SeqIn.at_ {p : Addr} {ds : List D} (h : MAt m p (.lst ds)) : SeqIn m (.adr p) ds := .inr ⟨p, rfl, h⟩
theorem SeqIn.get {x : D} {ds : List D} {H : Hp} {v : V} (h : SeqIn m x ds) (M : MemOk K m H) (r : Rd K (hide m H) v x) : ∃ a xs, v = .ref a ∧ H a = some (.lst xs) ∧ RdL K (hide m H) xs ds := by
  rcases h with rfl | ⟨p, rfl, i, hm⟩
  · exact lst_at r
  · cases r
    obtain ⟨xs, e, r⟩ := cell_at M hm
    exact ⟨p, xs, rfl, e, r⟩
theorem cq_len {x : D} {ds : List D} (h : SeqIn m x ds) (q : Q (.int (ds.length : Nat)) m) : CW K (rLenU K) [x] m Q := by
  rcases h with rfl | ⟨p, rfl, i, hm⟩
  · exact cw_lenL q
  · exact cw_lenM hm q
theorem cq_list {x : D} {ds : List D} (h : SeqIn m x ds) (q : Q (.lst ds) m) : CW K (rListU K) [x] m Q := by
  rcases h with rfl | ⟨p, rfl, i, hm⟩
  · exact cw_listL q
  · exact cw_listM hm q
theorem oq_ix {x : D} {ds : List D} {i : Int} {d : D} (h : SeqIn m x ds) (hi : L2.atI ds i = some d) (q : Q d m) : OW K (rIxU K) x (.int i) m Q := by
  rcases h with rfl | ⟨p, rfl, j, hm⟩
  · exact ow_ixL hi q
  · exact ow_ixM hm hi q
theorem lw_Q {x : D} {ds : List D} {lo hi : Option Int} (h : SeqIn m x ds) (q : Q (.lst (cutD ds lo hi)) m) : LW (K := K) (rSlU K) x lo hi m Q := fun H v M a QQ k => by
  obtain ⟨p, vs, rfl, e, r⟩ := h.get M a
  refine .inl ⟨p, vs, rfl, SqL.of e, fun z hz => ?_⟩
  obtain ⟨M2, s2, r3⟩ := new_lst M (r.cut lo hi) hz
  exact k _ m _ _ q s2 M2 r3
theorem Res.seq {x : D} {ds : List D} {ps : List PyData} (h : SeqIn m x ds) (r : ResL K m ds ps) : Res K m x (.list ps) := by
  rcases h with rfl | ⟨p, rfl, hm⟩
  · exact Res.lst r
  · exact Res.adr hm r
/-- == of data, cells looked through -/
theorem oq_eqR (n : Nat) {x y d e : D} (hx : Res K m x d.py) (hy : Res K m y e.py) (nx : d.nb n = true) (ny : e.nb n = true) (q : ∀ b : Bool, (b = true ↔ d = e) → Q (.bl b) m) (hn : n ≤ 64 := by decide) : OW K (rEqU K) x y m Q :=
  ow_or1 fun H v w M a b QQ k => ⟨d.py, e.py, hx H v M a, hy H w M b, fl_ok (nb_fl n d nx) hn, fl_ok (nb_fl n e ny) hn, k _ m _ H (q _ (eqv_nb n d e nx ny)) (Sub.refl _) M (.bl _)⟩
theorem oq_neR (n : Nat) {x y d e : D} (hx : Res K m x d.py) (hy : Res K m y e.py) (nx : d.nb n = true) (ny : e.nb n = true) (q : ∀ b : Bool, (b = true ↔ d = e) → Q (.bl (!b)) m) (hn : n ≤ 64 := by decide) : OW K (rNeU K) x y m Q :=
  ow_or1 fun H v w M a b QQ k => ⟨d.py, e.py, hx H v M a, hy H w M b, fl_ok (nb_fl n d nx) hn, fl_ok (nb_fl n e ny) hn, k _ m _ H (q _ (eqv_nb n d e nx ny)) (Sub.refl _) M (.bl _)⟩
end
/-! ### walks over a list that is data or a cell -/
section
variable {K : PySem.W.Frag} {δ : List (Option D)} {m : Mem} {Q : D → Mem → Prop} {te tl : TE} {P : Ps} {t : TS} {tt : TT} {g : TG}
theorem sw_forQ (h : EW K tl δ m fun x m1 => ∃ (α : Type) (xs : List α) (f : α → D), SeqIn m1 x (xs.map f) ∧ ∃ Iv : Nat → List (Option D) → Mem → Prop, Iv 0 δ m1 ∧ (∀ (j : Nat) (δ' : List (Option D)) (m' : Mem), Iv j δ' m' → SeqIn m' x (xs.map f)) ∧
      (∀ (j : Nat) (y : α) (δ' : List (Option D)) (m' : Mem), xs[j]? = some y → Iv j δ' m' → GW K g (f y) δ' m' fun δ2 m2 => SW K t δ2 m2 { nx := Iv (j + 1), ct := Iv (j + 1), bk := P.nx, rt := P.rt }) ∧
      (∀ (δ' : List (Option D)) (m' : Mem), Iv xs.length δ' m' → P.nx δ' m')) : SW K (tFor (iAny K tl) g t) δ m P := fun σ H s M E k =>
  h σ H s M _ fun x m1 v H1 ⟨α, xs, f, hx, Iv, h0, hsq, hs, hd⟩ s1 M1 r1 => by
    obtain ⟨a, ws, rfl, ea, ra⟩ := hx.get M1 r1
    refine .inl ⟨a, rfl, ⟨ws, SqL.of ea⟩, ?_⟩
    refine ⟨fun i n σ' H' => n = xs.length - i ∧ i ≤ xs.length ∧ ∃ δ' m', Iv i δ' m' ∧ Sub (hide m1 H1) (hide m' H') ∧ Sl K (hide m' H') σ' δ' ∧ MemOk K m' H', ⟨xs.length, rfl, Nat.zero_le _, δ, m1, h0, Sub.refl _, s.mono s1, M1⟩, ?_⟩
    rintro i n σ' H' ⟨rfl, hi, δ', m', hI, s2, S2, M2⟩
    obtain ⟨a', ws', ev, ea', ra'⟩ := (hsq i δ' m' hI).get M2 (r1.mono s2)
    cases ev
    have lw : ws'.length = xs.length := by rw [ra'.length, List.length_map]
    by_cases hlt : i < xs.length
    · refine .inr ⟨⟨ws', ws'[i]'(by omega), SqL.of ea', by simp [lw, hlt]⟩, fun σ3 H3 => ∃ δ3 m3, Iv (i + 1) δ3 m3 ∧ Sub (hide m1 H1) (hide m3 H3) ∧ Sl K (hide m3 H3) σ3 δ3 ∧ MemOk K m3 H3, fun σ3 H3 q => ⟨xs.length - (i + 1), by omega, rfl, hlt, q⟩, fun x3 H3 y => ?_⟩
      have hdi : xs[i]? = some xs[i] := List.getElem?_eq_getElem hlt
      obtain ⟨rfl, y⟩ := y
      obtain ⟨u, h1, h2⟩ := ra'.get (show (xs.map f)[i]? = some (f xs[i]) by rw [List.getElem?_map, hdi]; rfl)
      have z := y ws' (SqL.of ea')
      rw [h1] at z
      cases z
      refine hs i _ δ' m' hdi hI σ' _ _ S2 M2 h2 _ fun δ4 m4 σ4 H4 q4 s4 S4 M4 => ?_
      have s34 : Sub (hide m1 H1) (hide m4 H4) := s2.trans s4
      refine q4 σ4 H4 S4 M4 _ ⟨?_, ?_, ?_, ?_⟩
      · exact fun δ5 m5 σ5 H5 q5 s5 S5 M5 => ⟨δ5, m5, q5, s34.trans s5, S5, M5⟩
      · exact fun d m5 v H5 q5 s5 M5 r5 => k.rt d m5 v H5 q5 (s1.trans (s34.trans s5)) M5 r5
      · exact fun δ5 m5 σ5 H5 q5 s5 S5 M5 => k.nx δ5 m5 σ5 H5 q5 (s1.trans (s34.trans s5)) S5 M5
      · exact fun δ5 m5 σ5 H5 q5 s5 S5 M5 => ⟨δ5, m5, q5, s34.trans s5, S5, M5⟩
    · have e : i = xs.length := by omega
      subst e
      exact .inl ⟨⟨ws', SqL.of ea', by omega⟩, k.nx δ' m' σ' H' (hd δ' m' hI) (s1.trans s2) S2 M2⟩
/-- a comprehension over a list that is data or a cell -/
theorem ew_lcQ {vs : List Nat} (tm : Tame g vs) (h : EW K tl δ m fun x m1 => ∃ (α : Type) (xs : List α) (f : α → D), SeqIn m1 x (xs.map f) ∧ ∃ Iv : Nat → List D → Mem → Prop, Iv 0 [] m1 ∧ (∀ (j : Nat) (acc : List D) (m' : Mem), Iv j acc m' → SeqIn m' x (xs.map f)) ∧
      (∀ (j : Nat) (y : α) (acc : List D) (m' : Mem) (z : Addr), xs[j]? = some y → Iv j acc m' → acc.length < sizeLine ∧ GW K g (f y) (wipeD δ vs) (m' ++ [(z, .lst acc)]) fun δ2 m2 => TW K tt δ2 m2 fun b m3 =>
        if b = true then EW K te δ2 m3 fun y m4 => ∃ m5, m4 = m5 ++ [(z, .lst acc)] ∧ Iv (j + 1) (acc ++ [y]) m5 else ∃ m5, m3 = m5 ++ [(z, .lst acc)] ∧ Iv (j + 1) acc m5) ∧
      (∀ (acc : List D) (m' : Mem) (z : Addr), Iv xs.length acc m' → Q (.adr z) (m' ++ [(z, .lst acc)]))) : EW K (tLc (iAny K tl) g tt te vs) δ m Q := fun σ H s M QQ k =>
  h σ H s M _ fun x m1 v0 H1 ⟨α, xs, f, hx, Iv, h0, hsq, hs, hd⟩ s1 M1 r1 => by
    obtain ⟨a, ws, rfl, ea, ra⟩ := hx.get M1 r1
    refine .inl ⟨a, rfl, ⟨ws, SqL.of ea⟩, ?_⟩
    intro z hz
    have base : Sub (hide m1 H1) (hide (m1 ++ [(z, .lst [])]) (upd H1 z (.lst []))) := by
      rw [hide_cell hz]
      exact Sub.refl _
    refine ⟨fun i n H' => n = xs.length - i ∧ i ≤ xs.length ∧ ∃ acc m', Iv i acc m' ∧ Sub (hide m1 H1) (hide (m' ++ [(z, .lst acc)]) H') ∧ MemOk K (m' ++ [(z, .lst acc)]) H', ⟨xs.length, rfl, Nat.zero_le _, [], m1, h0, base, M1.cell (c := .lst []) hz ⟨[], upd_same, .nil⟩⟩, ?_⟩
    rintro i n H' ⟨rfl, hi, acc, m', hI, s2, M2⟩
    obtain ⟨a', ws', ev, ea', ra'⟩ := (hsq i acc m' hI).app.get M2 (r1.mono s2)
    cases ev
    have lw : ws'.length = xs.length := by rw [ra'.length, List.length_map]
    by_cases hlt : i < xs.length
    · refine .inr ⟨⟨ws', ws'[i]'(by omega), SqL.of ea', by simp [lw, hlt]⟩, fun H3 => ∃ acc m3, Iv (i + 1) acc m3 ∧ Sub (hide m1 H1) (hide (m3 ++ [(z, .lst acc)]) H3) ∧ MemOk K (m3 ++ [(z, .lst acc)]) H3, fun H3 q => ⟨xs.length - (i + 1), by omega, rfl, hlt, q⟩, fun x3 H3 y => ?_⟩
      have hdi : xs[i]? = some xs[i] := List.getElem?_eq_getElem hlt
      obtain ⟨rfl, y⟩ := y
      obtain ⟨u, h1, h2⟩ := ra'.get (show (xs.map f)[i]? = some (f xs[i]) by rw [List.getElem?_map, hdi]; rfl)
      have zz := y ws' (SqL.of ea')
      rw [h1] at zz
      cases zz
      obtain ⟨hl, step⟩ := hs i _ acc m' z hdi hI
      have sb : Sub (hide m H) (hide (m' ++ [(z, .lst acc)]) H3) := s1.trans s2
      refine tm _ σ (wipe σ vs) H3 _ (wipe_idem σ vs) ?_
      refine step (wipe σ vs) H3 _ ((s.mono sb).wipe vs) M2 h2 _ fun δ4 m4 σ4 H4 q4 s4 S4 M4 => ?_
      refine q4 σ4 H4 S4 M4 _ fun b m5 H5 q5 s5 M5 => ?_
      cases b with
      | true =>
        have q5' : EW K te δ4 m5 fun y m4 => ∃ m5, m4 = m5 ++ [(z, .lst acc)] ∧ Iv (i + 1) (acc ++ [y]) m5 := q5
        refine q5' σ4 H5 (S4.mono s5) M5 _ fun yd m6 yv H6 q6 s6 M6 r6 => ?_
        obtain ⟨m7, e7, hI7⟩ := q6
        subst e7
        obtain ⟨xs6, ex, lx, eh, M12⟩ := acc_step M6 r6
        refine ⟨xs6, ex, by rw [lx]; exact hl, acc ++ [yd], m7, hI7, ?_, M12⟩
        rw [eh]
        exact s2.trans (s4.trans (s5.trans s6))
      | false =>
        have q5' : ∃ m6, m5 = m6 ++ [(z, .lst acc)] ∧ Iv (i + 1) acc m6 := q5
        obtain ⟨m7, e7, hI7⟩ := q5'
        subst e7
        exact ⟨acc, m7, hI7, s2.trans (s4.trans s5), M5⟩
    · have e : i = xs.length := by omega
      subst e
      exact .inl ⟨⟨ws', SqL.of ea', by omega⟩, k (.adr z) _ (.ref z) H' (hd acc m' z hI) (s1.trans s2) M2 (.adr z)⟩
end
/-! ### any cell of a memory, changed -/
theorem MAt.up {m : Mem} {p : Addr} {c : Cell} (h : MAt m p c) (c' : Cell) : ∃ m', MUp m p c c' m' := let ⟨i, h⟩ := h; ⟨_, i, h, rfl⟩
theorem MUp.keeps {m m' : Mem} {p q : Addr} {c c' d : Cell} (h : MUp m p c c' m') (g : MAt m q d) : MAt m' q d ∨ (q = p ∧ MAt m' q c') := by
  obtain ⟨i, h, rfl⟩ := h
  obtain ⟨j, g⟩ := g
  by_cases e : i = j
  · subst e
    rw [h] at g
    cases g
    refine .inr ⟨rfl, i, ?_⟩
    rw [List.getElem?_set_self (List.getElem?_eq_some_iff.mp h).1]
  · exact .inl ⟨j, by rw [List.getElem?_set_ne e]; exact g⟩
/-- a comprehension whose items are drawn, its list a cell -/
theorem ew_lcDM {K : PySem.W.Frag} {δ : List (Option D)} {m : Mem} {Q : D → Mem → Prop} {te : TE} {tt : TT} {g : TG} {wi : TI} {α β : Type} {vs : List Nat} (f : β → D) (R : Nat → β → Prop) (Mv : Nat → Mem → Prop) (tm : Tame g vs) (h : IW K wi δ m fun ds m1 => ∃ (xs : List α) (e : α → D), ds = xs.map e ∧ xs.length ≤ sizeLine ∧ Mv 0 m1 ∧
      (∀ (j : Nat) (x : α) (acc : List D) (m' : Mem) (z : Addr), xs[j]? = some x → Mv j m' → GW K g (e x) (wipeD δ vs) (m' ++ [(z, .lst acc)]) fun δ2 m2 => TW K tt δ2 m2 fun b m3 => b = true ∧ EW K te δ2 m3 fun y m4 => ∃ t m5, y = f t ∧ R j t ∧ m4 = m5 ++ [(z, .lst acc)] ∧ Mv (j + 1) m5) ∧
      ∀ (ts : List β) (m' : Mem) (z : Addr), ts.length = xs.length → (∀ (j : Nat) (t : β), ts[j]? = some t → R j t) → Mv xs.length m' → Q (.adr z) (m' ++ [(z, .lst (ts.map f))])) : EW K (tLc wi g tt te vs) δ m Q := by
  refine ew_lcM tm fun σ H s M QQ k => h σ H s M QQ fun J H1 m1 ds ⟨xs, e, ed, hl, h0, st, q⟩ => k J H1 m1 ds ⟨fun j acc m' => ∃ ts : List β, acc = ts.map f ∧ ts.length = j ∧ (∀ (i : Nat) (t : β), ts[i]? = some t → R i t) ∧ Mv j m', ⟨[], rfl, rfl, fun i t h => by simp at h, h0⟩, ?_, ?_⟩
  · rintro j d acc m' z hj ⟨ts, rfl, hlen, hR, hM⟩
    subst ed
    rw [List.getElem?_map] at hj
    cases c : xs[j]? with
    | none => rw [c] at hj; cases hj
    | some x =>
      rw [c] at hj
      cases hj
      have hlt := (List.getElem?_eq_some_iff.mp c).1
      refine ⟨by rw [List.length_map]; omega, ?_⟩
      refine fun σ H v s M r QQ k => st j x _ m' z c hM σ H v s M r QQ fun δ' m' σ' H' q => k δ' m' σ' H' fun σ H s M QQ k => q σ H s M QQ fun b m2 H2 q => k b m2 H2 ?_
      obtain ⟨rfl, q⟩ := q
      rw [if_pos rfl]
      refine fun σ H s M QQ k => q σ H s M QQ fun y m4 v4 H4 q => k y m4 v4 H4 ?_
      obtain ⟨t, m5, rfl, hr, rfl, hM'⟩ := q
      refine ⟨m5, rfl, ts ++ [t], by rw [List.map_append]; rfl, by rw [List.length_append, hlen]; rfl, fun i t' ht => ?_, hM'⟩
      by_cases hi : i < ts.length
      · rw [List.getElem?_append_left hi] at ht
        exact hR i t' ht
      · rw [List.getElem?_append_right (by omega)] at ht
        have e0 : i - ts.length = 0 := by
          have := (List.getElem?_eq_some_iff.mp ht).1
          simp at this
          omega
        rw [e0] at ht
        simp at ht
        subst ht
        rw [show i = j by omega]
        exact hr
  · rintro acc m' z ⟨ts, rfl, hlen, hR, hM⟩
    rw [ed, List.length_map] at hlen hM
    exact q ts m' z hlen hR hM
theorem Shw.int {i : Int} (h : i.natAbs < 10 ^ 12) : Shw 0 13 (.int i) := by
  refine ⟨?_, by simp only [PyData.hasDict], by simp only [PyData.depth]; omega, PyData.shown_int_le h⟩
  simp only [PyData.showable, decide_eq_true_eq]
  by_cases z : i.natAbs = 0
  · rw [z]; decide
  · rw [Nat.log2_lt z]
    exact Nat.lt_trans h (by decide)
theorem Shw.non : Shw 0 13 .none := ⟨by simp only [PyData.showable], by simp only [PyData.hasDict], by simp only [PyData.depth]; omega, by simp only [PyData.shown]; decide⟩
theorem resL_fl {K : PySem.W.Frag} {m : Mem} {n : Nat} : ∀ {xs : List D}, xs.all (D.fl n) = true → ResL K m xs (D.pyL xs)
  | [], _ => ResL.nil
  | x :: xs, h => by
    rw [List.all_cons, Bool.and_eq_true] at h
    exact ResL.cons (Res.fl h.1) (resL_fl h.2)
end DL

set_option Elab.async false
set_option linter.all false
set_option maxRecDepth 100000
set_option maxHeartbeats 1000000
set_option autoImplicit false
/-! service[name]; zip; lists repeated; list(range); len(set(..)); tuple(..). -/
namespace DL
open PySem PySem.Spec PyProof.Rows L2
/-! ### o[i], o of an own class -/
def tSubOwn (C : Addr) (sp : Sp) (ta tb : TE) : TE := fun σ H Q => ta σ H fun x H1 => tb σ H1 fun y H2 => ∃ a dx fs, x = .ref a ∧ H2 a = some (.ins C dx fs) ∧ sp [.ref a, y] H2 Q E0
section
variable {X : Cx} {k : Nat} {f C : Addr} {ps : List Str} {Pf : FS} {a b : Expr} {ta tb : TE} {pos : Pos}
theorem pe_subOwn (hs : PySem.W.findIn X.K (.ref C) "__getitem__" = some (some (.ref f)) ∧ PySem.W.isFn X.K (.ref f) = true ∧ PySem.W.fnIn X.K f = true) (D : Def X.prog X.w X.K X.mg X.base k f ps Pf) (hr : Room (k + 1) X.A) (ha : PE X a ta) (hb : PE X b tb)
    (hsl : ∀ (x : Addr) (i : Value), subscripted b true (.ref x) i = runValue (.builtin "lifetime.subscript" ⟨[.ref x, i], []⟩)) : PE X (.Subscript a b pos) (tSubOwn C (spOf X.K Pf) ta tb) := by
  obtain ⟨fd, F, bd, _⟩ := D
  refine ⟨fun pins s σ H Q I h => ?_⟩
  refine Subscript_ (thn (ha.run pins s σ H _ I h) fun v s1 ⟨x, H1, I1, r1, q1⟩ => thn (hb.run pins s1 σ H1 _ I1 q1) fun u s2 ⟨y, H2, I2, r2, q2⟩ => ?_)
  obtain ⟨p, dx, fs, rfl, ea, q⟩ := q2
  cases r1
  obtain ⟨mA, O, _, _, _, _⟩ := ins_get I2.hok ea
  obtain ⟨od, J, _⟩ := O.look
  obtain ⟨mm, hF⟩ := I2.fr
  refine PySem.W.sub_K hF I2.ok.mod.kin J hs.1 hs.2.2 hs.2.1 ?_ (hsl p u)
  have hl := F.len _ _ _ _ q
  have r3 : Vals [V.ref p, y] [Value.ref p, u] := .cons rfl (.cons r2 .nil)
  refine wpAny_call (codeAny_mono (F.run X.A.in1 X.stack s2 H2 ⟨[.ref p, u], []⟩ [.ref p, u] [.ref p, y] _ E0 hr.in1 I2.env0.in1 (by
    have := bd s2 [.ref p, u] I2.kIn (by simpa using hl)
    simpa using this) r3 q) fun r s' hq => ?_)
  cases r with
  | error e => exact hq.elim
  | ok fl =>
    cases fl with
    | ret w => exact I2.after hq
    | next => exact False.elim hq
    | brk => exact False.elim hq
    | cont => exact False.elim hq
end
theorem kx_subOwn {X : Cx} {k : Nat} {f C : Addr} {ps : List Str} {Pf : FS} {a b : Expr} {ta tb : TE} {pos : Pos} (K : PySem.W.Frag) (hK : X.K = K) (hs : PySem.W.findIn K (.ref C) "__getitem__" = some (some (.ref f)) ∧ PySem.W.isFn K (.ref f) = true ∧ PySem.W.fnIn K f = true) (D : Def X.prog X.w K X.mg X.base k f ps Pf) (hr : Room (k + 1) X.A) (ha : PE X a ta) (hb : PE X b tb)
    (hsl : ∀ (x : Addr) (i : Value), subscripted b true (.ref x) i = runValue (.builtin "lifetime.subscript" ⟨[.ref x, i], []⟩)) : PE X (.Subscript a b pos) (tSubOwn C (spOf K Pf) ta tb) := by subst hK; exact pe_subOwn hs D hr ha hb hsl
section
variable {K : PySem.W.Frag} {δ : List (Option D)} {m : Mem} {Q : D → Mem → Prop} {te ta tb : TE}
theorem ew_subOwn {C : Addr} {Pf : FS} (h : EW K ta δ m fun x m1 => EW K tb δ m1 fun y m2 => ∃ fs, x = .ins C fs ∧ Pf [x, y] m2 Q) : EW K (tSubOwn C (spOf K Pf) ta tb) δ m Q := fun σ H s M QQ k =>
  h σ H s M _ fun x m1 v1 H1 q1 s1 M1 r1 => q1 σ H1 (s.mono s1) M1 _ fun y m2 v2 H2 ⟨fs, ex, q⟩ s2 M2 r2 => by
    have r1' := r1.mono s2
    have r3 := r1'
    rw [ex] at r3
    obtain ⟨p, dx, xs, ev, e, nm, r⟩ := ins_at r3
    subst ev
    exact ⟨p, dx, xs, rfl, e, [x, y], m2, Q, .cons r1' (.cons r2 .nil), M2, q, fun d m' v H' q s4 M' r => k d m' v H' q ((s1.trans s2).trans s4) M' r⟩
/-! ### zip of two lists -/
def zipD (ds es : List D) : List D := (ds.zip es).map fun p => .tup [p.1, p.2]
theorem feeds_zip {a b : Addr} {xs ys : List V} {ds es : List D} {F0 : Hp} (e : F0 a = some (.lst xs)) (e' : F0 b = some (.lst ys)) (r : RdL K F0 xs ds) (r' : RdL K F0 ys es) : Feeds K (Itz K a b) F0 (zipD ds es) := by
  have l := r.length
  have l' := r'.length
  have l2 : (zipD ds es).length = min ds.length es.length := by simp [zipD]
  have at_ : ∀ (m : Mem) (H : Hp), Sub F0 (hide m H) → SqL K H a xs := fun m H s => SqL.of (hide_le _ _ (s _ _ e))
  have at2 : ∀ (m : Mem) (H : Hp), Sub F0 (hide m H) → SqL K H b ys := fun m H s => SqL.of (hide_le _ _ (s _ _ e'))
  refine ⟨fun i m H s M h => ?_, fun i m H x H' d s M h y => ?_, fun m H s M => ?_⟩
  · rw [l2] at h
    exact ⟨xs, ys, xs[i]'(by omega), ys[i]'(by omega), at_ m H s, at2 m H s, by simp [l, h], by simp [l', h]⟩
  · obtain ⟨T, v, w, rfl, hT, rfl, y1, y2⟩ := y
    unfold zipD at h
    rw [List.getElem?_map] at h
    cases q : (ds.zip es)[i]? with
    | none => rw [q] at h; cases h
    | some z =>
      rw [q] at h
      cases h
      rw [List.getElem?_zip_eq_some] at q
      obtain ⟨v', h1, h2⟩ := r.get q.1
      obtain ⟨w', h3, h4⟩ := r'.get q.2
      have z1 := y1 xs (at_ m H s)
      have z2 := y2 ys (at2 m H s)
      rw [h1] at z1
      rw [h3] at z2
      cases z1
      cases z2
      obtain ⟨M2, s2, r2⟩ := new_tup (ds := [z.1, z.2]) M (.cons (h2.mono s) (.cons (h4.mono s) .nil)) hT
      exact ⟨s2, M2, r2⟩
  · exact ⟨xs, ys, at_ m H s, at2 m H s, by omega⟩
theorem iw_zip {t : TA} {R : List D → Mem → Prop} (h : AW K t δ m fun xs m1 => ∃ ds es, xs = [.lst ds, .lst es] ∧ R (zipD ds es) m1) : IW K (iZip K t) δ m R := fun σ H s M QQ k =>
  h σ H s M _ fun x m1 v H1 ⟨ds, es, ex, q⟩ s1 M1 r1 => by
    subst ex
    cases r1 with
    | cons r1 r2 =>
      cases r2 with
      | cons r2 r3 =>
        cases r3
        cases r1 with
        | lst e r =>
          cases r2 with
          | lst e' r' => exact ⟨_, _, _, _, rfl, SqL.of (hide_le _ _ e), SqL.of (hide_le _ _ e'), k _ H1 m1 _ q s1 M1 (feeds_zip e e' r r')⟩
theorem kx_zip {X : Cx} (K : PySem.W.Frag) (hK : X.K = K) {e e2 : Expr} {ta : TA} {p pos tpos : Pos} {elts : List Expr} {kk : Nat} (hg : Gl X "zip") (hm : X.mg "zip" = none) (ha : PA X [e, e2] ta)
    (hs : starEach [e, e2] X.env = (false, eval e X.env) :: starEach [e2] X.env := by rfl) (hpl : (backTo pos (starEach [e2] X.env)).any (·.1) = false := by rfl) :
    PI X (.Tuple elts kk tpos) (.Call (.Name "zip" p) [e, e2] [] pos) (iZip K ta) := by subst hK; exact pi_zip hg hm ha hs hpl
/-! ### xs * k -/
theorem ow_rep {ds : List D} {i : Int} (h0 : 0 ≤ i) (h1 : i < 2 ^ 62) (hl : ds.length * i.toNat ≤ sizeLine) (q : Q (.lst (List.replicate i.toNat ds).flatten) m) : OW K rRep (.lst ds) (.int i) m Q := fun H v w M a b QQ k => by
  obtain ⟨p, xs, rfl, e, r⟩ := lst_at a
  cases b
  have gen : ∀ n : Nat, RdL K (hide m H) (List.replicate n xs).flatten (List.replicate n ds).flatten := by
    intro n
    induction n with
    | zero => exact .nil
    | succ n ih =>
      rw [List.replicate_succ, List.replicate_succ, List.flatten_cons, List.flatten_cons]
      exact r.append ih
  refine ⟨p, i, xs, rfl, rfl, e, by omega, by omega, by rw [r.length]; exact hl, fun z hz => ?_⟩
  obtain ⟨M2, s2, r3⟩ := new_lst M (gen i.toNat) hz
  exact k _ m _ _ q s2 M2 r3
/-! ### list(range(..)) -/
theorem rg_rd {F : Hp} {n : Nat} : RdL K F (rgV 0 (n : Nat)) ((List.range n).map fun i => D.int (i : Nat)) := by
  have e : rgV 0 (n : Nat) = (List.range n).map fun i => V.int ((i : Nat) : Int) := by
    unfold rgV
    rw [show (((n : Nat) : Int) - 0).toNat = n by omega]
    refine List.map_congr_left fun i _ => ?_
    rw [Int.zero_add]
  rw [e]
  generalize List.range n = l
  induction l with
  | nil => exact .nil
  | cons a l ih => exact .cons (.int _) ih
theorem ew_listRg1 (h : EW K ta δ m fun x m1 => ∃ n : Nat, x = .int (n : Nat) ∧ n ≤ 16777216 ∧ Q (.lst ((List.range n).map fun i => D.int (i : Nat))) m1) : EW K (tLstRg (tRg1 ta)) δ m Q := fun σ H s M QQ k =>
  h σ H s M _ fun x m1 v1 H1 ⟨n, ex, hn, q⟩ s1 M1 r1 => by
    subst ex
    cases r1
    refine ⟨_, rfl, ⟨by omega, by omega, by omega, by omega, by omega⟩, fun z hz => ?_⟩
    obtain ⟨M2, s2, r3⟩ := new_lst M1 (rg_rd (n := n)) hz
    exact k _ m1 _ _ q (s1.trans s2) M2 r3
/-! ### tuple(xs) -/
def rTupU (K : PySem.W.Frag) : List V → Hp → VK → Prop := fun xs H Q => ∃ p ys, xs = [.ref p] ∧ ((SqL K H p ys ∧ ∀ l, H l = none → Q (.ref l) (upd H l (.tup ys))) ∨ (SqT K H p ys ∧ Q (.ref p) H))
theorem kx_tupU {X : Cx} (K : PySem.W.Frag) (hK : X.K = K) : CallR X (.type "tuple") (rTupU K) := by subst hK; exact call_tuple_of
theorem cw_tupL {ds : List D} (q : Q (.tup ds) m) : CW K (rTupU K) [.lst ds] m Q := fun H vs M a QQ k => by
  cases a with
  | cons a n =>
    cases n
    obtain ⟨p, xs, rfl, e, r⟩ := lst_at a
    refine ⟨p, xs, rfl, .inl ⟨SqL.of e, fun z hz => ?_⟩⟩
    obtain ⟨M2, s2, r3⟩ := new_tup M r hz
    exact k _ m _ _ q s2 M2 r3
end
/-! ### len(set(t)), t a tuple of ints -/
def tLenSetT (K : PySem.W.Frag) (ta : TE) : TE := fun σ H Q => ta σ H fun x H1 => ∃ (l : Addr) (ns : List Int), x = .ref l ∧ SqT K H1 l (ns.map V.int) ∧ ns.length ≤ 1000 ∧ ∀ out : List Int, out.Nodup → (∀ k, k ∈ out ↔ k ∈ ns) → Q (.int out.length) H1
theorem pe_lenSetT {X : Cx} {a : Expr} {ta : TE} {p p2 q pos : Pos} (hc : X.calm = true) (hg : Gl X "len") (hm : X.mg "len" = none) (hg2 : Gl X "set") (hm2 : X.mg "set" = none) (ha : PE X a ta)
    (na : starEach [a] X.env = (false, eval a X.env) :: starEach [] X.env := by rfl) : PE X (.Call (.Name "len" p) [.Call (.Name "set" p2) [a] [] q] [] pos) (tLenSetT X.K ta) := by
  refine ⟨fun pins s σ H Q I h => ?_⟩
  refine Call_ (ld_blt I hg hm boot_len ?_)
  refine PyProof.Rows.callWith_builtin1 (PyProof.Rows.args_cons ?_ rfl) rfl rfl
  refine Call_ (ld_blt I hg2 hm2 boot_set ?_)
  refine PyProof.Rows.callWith_type1 (PyProof.Rows.args_cons (thn (ha.run pins s σ H _ I h) fun v s1 ⟨x, H1, I1, r1, q1⟩ => PyProof.Rows.args_nil ?_) na) na rfl
  obtain ⟨l, ns, rfl, hq, hl, q1⟩ := q1
  cases r1
  obtain ⟨its, rv, pt, hz⟩ := I1.tuple hq
  have hi : IntsAre its.toArray.toList ns := ints_of_vals rv
  refine call_set_tupI ns (I1.ok.hd hc) (show s1.heap.IsTuple l its.toArray from pt) hi (by unfold scanBound; omega) fun h' tk c R1 hcn k => ?_
  refine PyProof.Rows.args_nil ?_
  obtain ⟨o, es, ep, t, ho, hex, hd, g, nd, hm2, hb, hf, hn, _⟩ := R1
  have I2 : Inv X pins σ H1 { s1 with heap := h', toks := tk } := I1.kept fun b o e => k b o e
  refine call_len_set ho hex hd hf (by rw [hn]; omega) ⟨.int ((es.toList.map keyOf).length : Nat), H1, I2.tok _, ⟨tk + 1, by simp⟩, q1 _ nd fun j => ?_⟩
  rw [← hm2 j, decide_eq_true_eq]
theorem kx_lenSetT {X : Cx} (K : PySem.W.Frag) (hK : X.K = K) {a : Expr} {ta : TE} {p p2 q pos : Pos} (hc : X.calm = true) (hg : Gl X "len") (hm : X.mg "len" = none) (hg2 : Gl X "set") (hm2 : X.mg "set" = none) (ha : PE X a ta)
    (na : starEach [a] X.env = (false, eval a X.env) :: starEach [] X.env := by rfl) : PE X (.Call (.Name "len" p) [.Call (.Name "set" p2) [a] [] q] [] pos) (tLenSetT K ta) := by subst hK; exact pe_lenSetT hc hg hm hg2 hm2 ha na
section
variable {K : PySem.W.Frag} {δ : List (Option D)} {m : Mem} {Q : D → Mem → Prop} {te ta tb : TE}
theorem ew_lenSetT (h : EW K ta δ m fun x m1 => ∃ ns : List Int, x = .tup (ns.map D.int) ∧ ns.length ≤ 1000 ∧ ∀ out : List Int, out.Nodup → (∀ k, k ∈ out ↔ k ∈ ns) → Q (.int (out.length : Nat)) m1) : EW K (tLenSetT K ta) δ m Q := fun σ H s M QQ k =>
  h σ H s M _ fun x m1 v1 H1 ⟨ns, ex, hl, q⟩ s1 M1 r1 => by
    subst ex
    obtain ⟨p, xs, rfl, e, r⟩ := tup_at r1
    have := r.ints_v
    subst this
    exact ⟨p, ns, rfl, e, hl, fun out nd hm => k _ m1 _ H1 (q out nd hm) s1 M1 (.int _)⟩
theorem ma_rev {p : Addr} {ds : List D} {m' : Mem} (hm : MUp m p (.lst ds) (.lst ds.reverse) m') (q : Q .non m') : MW K rReverse (.adr p) [] m Q := let ⟨_, hm, e⟩ := hm; mw_reverse hm (e ▸ q)
end
section
variable {K : PySem.W.Frag} {δ : List (Option D)} {m : Mem} {Q : D → Mem → Prop} {te : TE} {tt : TT} {g : TG} {wi : TI}
/-- a comprehension that picks some of a list and maps them, its list a cell; nothing else changes -/
theorem ew_lcPM {vs : List Nat} (tm : Tame g vs) (h : IW K wi δ m fun ds m1 => ∃ (α : Type) (xs : List α) (f F : α → D) (p : α → Bool), ds = xs.map f ∧ xs.length ≤ sizeLine ∧
      (∀ (x : α) (acc : List D) (z : Addr), x ∈ xs → GW K g (f x) (wipeD δ vs) (m1 ++ [(z, .lst acc)]) fun δ2 m2 => TW K tt δ2 m2 fun b m3 => b = p x ∧ m3 = m1 ++ [(z, .lst acc)] ∧ (b = true → EW K te δ2 m3 fun y m4 => y = F x ∧ m4 = m1 ++ [(z, .lst acc)])) ∧
      ∀ z, Q (.adr z) (m1 ++ [(z, .lst ((xs.filter p).map F))])) : EW K (tLc wi g tt te vs) δ m Q := by
  refine ew_lcM tm fun σ H s M QQ k => h σ H s M QQ fun J H1 m1 ds ⟨α, xs, f, F, p, ed, hl, st, q⟩ => k J H1 m1 ds ⟨fun j acc m' => acc = ((xs.take j).filter p).map F ∧ m' = m1, ⟨by simp, rfl⟩, ?_, ?_⟩
  · rintro j d acc m' z hj ⟨rfl, rfl⟩
    subst ed
    rw [List.getElem?_map] at hj
    cases c : xs[j]? with
    | none => rw [c] at hj; cases hj
    | some x =>
      rw [c] at hj
      cases hj
      have hlt := (List.getElem?_eq_some_iff.mp c).1
      have hle := List.length_filter_le p (xs.take j)
      rw [List.length_take] at hle
      have et : (xs.take (j + 1)).filter p = (xs.take j).filter p ++ (if p x = true then [x] else []) := by
        rw [List.take_add_one, c, List.filter_append]
        congr 1
        by_cases hp : p x = true
        · rw [if_pos hp]; simp [hp]
        · rw [if_neg hp]; simp [hp]
      refine ⟨by rw [List.length_map]; omega, ?_⟩
      refine fun σ H v s M r QQ k => st x _ z (List.mem_of_getElem? c) σ H v s M r QQ fun δ' m' σ' H' q => k δ' m' σ' H' fun σ H s M QQ k => q σ H s M QQ fun b m2 H2 q => k b m2 H2 ?_
      obtain ⟨hb, hm, q⟩ := q
      cases hbb : b with
      | false =>
        rw [if_neg Bool.false_ne_true]
        refine ⟨_, hm, ?_, rfl⟩
        rw [et, ← hb, hbb, if_neg Bool.false_ne_true, List.append_nil]
      | true =>
        rw [if_pos rfl]
        have q := q hbb
        refine fun σ H s M QQ k => q σ H s M QQ fun y m4 v4 H4 q => k y m4 v4 H4 ?_
        obtain ⟨rfl, rfl⟩ := q
        refine ⟨_, rfl, ?_, rfl⟩
        rw [et, ← hb, hbb, if_pos rfl, List.map_append]
        rfl
  · rintro acc m' z ⟨rfl, rfl⟩
    subst ed
    rw [List.length_map, List.take_length]
    exact q z
end
end DL

set_option Elab.async false
set_option linter.all false
set_option maxRecDepth 100000
set_option maxHeartbeats 1000000
set_option autoImplicit false
/-! != of an own class with its own ==; sorted, dict(..), dicts by comprehension. -/
namespace DL
open PySem PySem.Spec PyProof.Rows L2
theorem ifBound_slot {M : Model} {A : Around} {E : Value → Shared → Prop} {s : Shared} {self : Value} {name : PySem.Str} {id : String} {args : List Value} {Q : Option Value → Shared → Prop} (sp : PySem.W.Looks M s.heap (specialOf self name) (some (.builtin id))) (hb : bindSpecial (.builtin id) self = pure (.builtin id, [self]))
    (hc : wpAny M A (call (.builtin id) (self :: args)) (fun v => Q (some v)) E s) : wpAny M A (callSpecialIfBound? self name args) Q E s := by
  simp only [callSpecialIfBound?, bindSpecialIfBound?]
  refine wpAny_holding (wpAny_bind (wpAny_bind (sp.here ?_)))
  simp only [hb]
  refine wpAny_bind (wpAny_askSetting (wpAny_ite ?_))
  have fin : wpAny M A (call (.builtin id) ([self] ++ args) >>= fun v => pure (some v)) Q E s := wpAny_bind (wpAny_mono hc (fun v s' h' => wpAny_pure h') fun _ _ h' => h')
  split
  · exact wpAny_bind (wpAny_pure (wpAny_pure fin))
  · exact wpAny_tryCatch (wpAny_bind (wpAny_pure (wpAny_pure fin)))
def rOwnNe (C : Addr) (sp : Sp) : R2 := fun x y H Q => ∃ a b dx dy fs gs, x = .ref a ∧ y = .ref b ∧ H a = some (.ins C dx fs) ∧ H b = some (.ins C dy gs) ∧ sp [.ref a, .ref b] H (fun v H' => ∃ r, v = .bl r ∧ Q (.bl (!r)) H') E0
/-- what != asks of an own class -/
structure NeOwn (K : PySem.W.Frag) (C : Addr) : Prop where
  ne : PySem.W.findIn K (.ref C) "__ne__" = some (some (.builtin "object.__ne__"))
  mro : PySem.W.mroIn K C (.type "object") = some true
section
variable {X : Cx} {k : Nat} {f C : Addr} {ps : List Str} {Pf : FS}
theorem op_ownNe (hs : PySem.W.findIn X.K (.ref C) "__eq__" = some (some (.ref f)) ∧ PySem.W.isFn X.K (.ref f) = true) (N : NeOwn X.K C) (D : Def X.prog X.w X.K X.mg X.base k f ps Pf) (hr : Room (k + 1) X.A) : OpR X (compareOp .NotEq) (rOwnNe C (spOf X.K Pf)) := by
  obtain ⟨fd, F, hb, _⟩ := D
  intro pins s σ H x y v u Q I rx ry h
  obtain ⟨a, b, dx, dy, fs, gs, rfl, rfl, ha, hb', q⟩ := h
  cases rx
  cases ry
  obtain ⟨mA, J, _⟩ := ins_get I.hok ha
  obtain ⟨mB, J', _⟩ := ins_get I.hok hb'
  obtain ⟨od, J, _⟩ := J.look
  obtain ⟨od', J', _⟩ := J'.look
  have hu : X.A.units < cLine := hr.units0
  show wpAny (model X.prog X.w) X.A (richCompare .NotEq (.ref a) (.ref b)) (EP X pins σ Q) X.xe s
  have hl := F.len _ _ _ _ q
  have r2 : Vals [V.ref a, V.ref b] [Value.ref a, Value.ref b] := .cons rfl (.cons rfl .nil)
  have run : wpAny (model X.prog X.w) X.A.in1 (call (.ref f) [.ref a, .ref b]) (fun v s' => ∃ b, v = .bool b ∧ EP X pins σ Q (.bool (!b)) s') X.xe s := by
    refine wpAny_call (codeAny_mono (F.run X.A.in1 X.stack s H ⟨[.ref a, .ref b], []⟩ [.ref a, .ref b] [.ref a, .ref b] _ E0 hr.in1 I.env0.in1 (by
      have := hb s [.ref a, .ref b] I.kIn (by simpa using hl)
      simpa using this) r2 q) fun r s' hq => ?_)
    cases r with
    | error e => exact hq.elim
    | ok fl =>
      cases fl with
      | ret w =>
        obtain ⟨z, H', I', rz, r, ez, q2⟩ := I.after hq
        subst ez
        cases rz
        exact ⟨r, rfl, .bl (!r), H', I', rfl, q2⟩
      | next => exact False.elim hq
      | brk => exact False.elim hq
      | cont => exact False.elim hq
  have body : wpAny (model X.prog X.w) X.A.in1 (Builtin.«object.__ne__» ⟨[.ref a, .ref b], []⟩) (fun fin s' => ∃ b, fin = .done (.ret (.bool b)) ∧ EP X pins σ Q (.bool b) s') X.xe s := by
    have hu1 : X.A.in1.units < cLine := hr.in1.units0
    have kin := I.kIn
    obtain ⟨hp, g, d, t, os⟩ := s
    unfold Builtin.«object.__ne__»
    repeat (first
      | with_reducible refine wpAny_cRoomFor hu1 ?_
      | (refine wpAny_bind (m := callSpecialIfBound? (.ref a) (Str.ofString "__eq__") [.ref b])
          (PySem.W.ifBound_K kin J hs.1 hs.2 (wpAny_mono run (fun r s' hr => by
            obtain ⟨c, rfl, hq⟩ := hr
            have fin : ∃ b, Fin.done (.ret (.bool (!c))) = .done (.ret (.bool b)) ∧ EP X pins σ Q (.bool b) s' := ⟨!c, rfl, hq⟩
            repeat (first | exact fin | exact wpAny_pure fin | exact wpAny_truthy_bool fin | (refine wpAny_bind (m := truthy (.bool _)) (wpAny_truthy_bool ?_)) | wp_step)) fun _ _ e => e)))
      | wp_step)
  have try1 : wpAny (model X.prog X.w) X.A (tryCompare (.ref a) "__ne__" (.ref b)) (fun r s' => ∃ v, r = some v ∧ EP X pins σ Q v s') X.xe s := by
    simp only [tryCompare]
    refine wpAny_bind (ifBound_slot (J.type.andThen (PySem.W.looks_findIn I.kIn N.ne)) (PySem.F.cmp_object.ne.bind _) (wpAny_call (codeAny_call_builtin PySem.F.cmp_object.ne.plain PySem.F.cmpEntry_ne
      (PySem.W.check_slot PySem.F.cmpKind_ne PySem.F.cmpSplit_ne (J.type.andThen (PySem.W.looks_mroIn I.kIn N.mro)) (PySem.F.cmpArgs_ne _ _) (wpAny_mono body (fun fin s' hv => ?_) fun _ _ e => e)))))
    obtain ⟨b, rfl, hq⟩ := hv
    first | exact wpAny_pure ⟨_, rfl, hq⟩ | exact wpAny_pure (wpAny_pure ⟨_, rfl, hq⟩) | exact ⟨b, rfl, hq⟩
  unfold richCompare
  simp only [oneThing_ref]
  refine wpAny_holding ?_
  refine wpAny_bind (wpAny_cRoomFor hu ?_)
  rw [cmpInfo_NotEq]
  dsimp only
  refine wpAny_bind (J.type.here (wpAny_bind (J'.type.here ?_)))
  rw [show (Value.ref C != Value.ref C) = false from by simp]
  simp only [Bool.false_eq_true, if_false]
  refine wpAny_bind (wpAny_pure ?_)
  simp only [Bool.false_eq_true, if_false]
  refine wpAny_bind (wpAny_mono try1 (fun r s' hv => ?_) fun _ _ e => e)
  obtain ⟨v, rfl, hq⟩ := hv
  first | exact wpAny_pure hq | exact wpAny_pure (wpAny_pure hq)
end
theorem kx_ownNe {X : Cx} {k : Nat} {f C : Addr} {ps : List Str} {Pf : FS} (K : PySem.W.Frag) (hK : X.K = K) (hs : PySem.W.findIn K (.ref C) "__eq__" = some (some (.ref f)) ∧ PySem.W.isFn K (.ref f) = true) (N : NeOwn K C) (D : Def X.prog X.w K X.mg X.base k f ps Pf) (hr : Room (k + 1) X.A) : OpR X (compareOp .NotEq) (rOwnNe C (spOf K Pf)) := by
  subst hK; exact op_ownNe hs N D hr
theorem ow_ownNe {K : PySem.W.Frag} {m : Mem} {Q : D → Mem → Prop} {C : Addr} {Pf : FS} {fs gs : List (Str × D)} (h : Pf [.ins C fs, .ins C gs] m fun d m' => ∃ b, d = .bl b ∧ Q (.bl (!b)) m') : OW K (rOwnNe C (spOf K Pf)) (.ins C fs) (.ins C gs) m Q := fun H v w M a b QQ k => by
  obtain ⟨x, dx, xs, rfl, e, nm, r⟩ := ins_at a
  obtain ⟨y, dy, ys, rfl, e', nm', r'⟩ := ins_at b
  refine ⟨x, y, dx, dy, xs, ys, rfl, rfl, e, e', _, m, _, .cons a (.cons b .nil), M, h, fun d m' v H' ⟨z, ed, q⟩ s2 M2 r2 => ?_⟩
  subst ed
  cases r2
  exact ⟨z, rfl, k _ m' _ H' q s2 M2 (.bl (!z))⟩
theorem ew_mid {K : PySem.W.Frag} {δ : List (Option D)} {m : Mem} {te : TE} {Q : D → Mem → Prop} (R : D → Mem → Prop) (h : EW K te δ m R) (n : ∀ d m', R d m' → Q d m') : EW K te δ m Q := fun σ H s M QQ k => h σ H s M QQ fun d m1 v1 H1 q => k d m1 v1 H1 (n d m1 q)
/-! ### sorted texts -/
def leT (a b : List Nat) : Prop := ltCps b a = false
theorem leT_trans : ∀ {a b c : List Nat}, leT a b → leT b c → leT a c
  | [], _, c, _, _ => by cases c <;> rfl
  | a :: r, [], c, h, _ => by simp [leT, ltCps] at h
  | a :: r, b :: t, [], _, h => by simp [leT, ltCps] at h
  | a :: r, b :: t, c :: u, h, h' => by
    unfold leT at h h' ⊢
    simp only [ltCps, Bool.or_eq_false_iff, decide_eq_false_iff_not, Bool.and_eq_false_iff, beq_eq_false_iff_ne, ne_eq] at h h' ⊢
    refine ⟨by omega, ?_⟩
    by_cases e : c = a
    · right
      have e1 : b = a := by omega
      have e2 : c = b := by omega
      refine leT_trans (a := r) (b := t) (c := u) ?_ ?_
      · rcases h.2 with h | h
        · exact absurd e1 h
        · exact h
      · rcases h'.2 with h | h
        · exact absurd e2 h
        · exact h
    · exact .inl e
theorem leT_anti : ∀ {a b : List Nat}, leT a b → leT b a → a = b
  | [], [], _, _ => rfl
  | [], _ :: _, _, h => by simp [leT, ltCps] at h
  | _ :: _, [], h, _ => by simp [leT, ltCps] at h
  | a :: r, b :: t, h, h' => by
    unfold leT at h h'
    simp only [ltCps, Bool.or_eq_false_iff, decide_eq_false_iff_not, Bool.and_eq_false_iff, beq_eq_false_iff_ne, ne_eq] at h h'
    have e : a = b := by omega
    subst e
    rw [leT_anti (a := r) (b := t) (by rcases h.2 with h | h; exact absurd rfl h; exact h) (by rcases h'.2 with h | h; exact absurd rfl h; exact h)]
def SortS (l : List Str) : Prop := l.Pairwise fun a b => leT a.cps.toList b.cps.toList
theorem rising_pw : ∀ {l : List Str} {p : Str}, risingS p l = true → (p :: l).Pairwise fun a b => leT a.cps.toList b.cps.toList
  | [], p, _ => List.pairwise_singleton _ _
  | x :: r, p, h => by
    unfold risingS at h
    rw [Bool.and_eq_true, Bool.not_eq_true'] at h
    have ih := rising_pw h.2
    refine List.pairwise_cons.mpr ⟨fun y hy => ?_, ih⟩
    rcases List.mem_cons.mp hy with rfl | hy
    · exact h.1
    · exact leT_trans h.1 ((List.pairwise_cons.mp ih).1 y hy)
theorem sortedS_pw {l : List Str} (h : sortedS l = true) : SortS l := by
  cases l with
  | nil => exact List.Pairwise.nil
  | cons x r => exact rising_pw h
theorem str_ext {a b : Str} (h : a.cps.toList = b.cps.toList) : a = b := by
  obtain ⟨a⟩ := a
  obtain ⟨b⟩ := b
  congr 1
  exact Array.ext' h
theorem SortS.uniq {l l' : List Str} (h : SortS l) (h' : SortS l') (p : l.Perm l') : l = l' :=
  List.Perm.eq_of_pairwise (le := fun a b : Str => leT a.cps.toList b.cps.toList) (fun a b _ _ h1 h2 => str_ext (leT_anti h1 h2)) h h' p
theorem SortS.pairs {α : Type} {l l' : List (Str × α)} (h : SortS (l.map (·.1))) (h' : SortS (l'.map (·.1))) (nd : (l.map (·.1)).Nodup) (p : l.Perm l') : l = l' := by
  have e := h.uniq h' (p.map _)
  refine List.ext_getElem? fun i => ?_
  have ei : (l.map (·.1))[i]? = (l'.map (·.1))[i]? := by rw [e]
  rw [List.getElem?_map, List.getElem?_map] at ei
  cases c : l[i]? with
  | none =>
    rw [c] at ei
    cases c' : l'[i]? with
    | none => rfl
    | some y => rw [c'] at ei; cases ei
  | some x =>
    rw [c] at ei
    cases c' : l'[i]? with
    | none => rw [c'] at ei; cases ei
    | some y =>
      rw [c'] at ei
      have e1 : x.1 = y.1 := by simpa using ei
      have hy : y ∈ l := p.mem_iff.mpr (List.mem_of_getElem? c')
      obtain ⟨j, hj⟩ := List.getElem?_of_mem hy
      have il : i < (l.map (·.1)).length := by rw [List.length_map]; exact (List.getElem?_eq_some_iff.mp c).1
      have : i = j := (List.getElem?_inj il nd).mp (by rw [List.getElem?_map, List.getElem?_map, c, hj]; show some x.1 = some y.1; rw [e1])
      subst this
      rw [c] at hj
      exact hj
def rSortT (K : PySem.W.Frag) : List V → Hp → VK → Prop := fun vs H Q => ∃ (a : Addr) (xs : List Str), vs = [V.ref a] ∧ SqT K H a (xs.map V.str) ∧ xs.length < 64 ∧ ∀ (ys : List Str) (p : Addr), ys.Perm xs → sortedS ys = true → H p = none → Q (.ref p) (upd H p (.lst (ys.map V.str)))
theorem cr_sortT {X : Cx} : CallR X (.builtin "sorted") (rSortT X.K) := by
  intro pins s σ H xs us Q I r q
  obtain ⟨a, ks, ex, hq, h64, q⟩ := q
  subst ex
  cases r with
  | cons r0 r1 =>
  cases r1
  cases r0
  obtain ⟨its, rv, hl, _⟩ := I.tuple hq
  have hlen0 : ks.length = its.length := by have := rv.length; rwa [List.length_map] at this
  obtain ⟨o, ho, hc, hd⟩ : ∃ o, s.heap.get? a = some o ∧ o.cls = .type "tuple" ∧ ∃ n, o.data = .seq its.toArray n := by
    obtain ⟨o, ho, hc, n, hd⟩ := (show s.heap.IsTuple a its.toArray from hl)
    exact ⟨o, ho, hc, n, hd⟩
  obtain ⟨n, hd⟩ := hd
  refine Calls.call_function_entry PyProof.Rows.kind_sorted PyProof.Rows.plain_sorted PyProof.Rows.entry_sorted (PyProof.Rows.args_sorted1 _) ?_
  unfold Builtin.«sorted»
  refine wpAny_bind (m := checkCount "sorted" 1 1 _) (wpAny_pure ?_)
  have h16 : its.toArray.size ≤ sizeLine := by rw [List.size_toArray, ← hlen0, sizeLine_eq]; omega
  refine wpAny_bind (wpAny_collect_seq (A := X.A.in1) a (.inr rfl) ho hc hd (fun h' hk => ?_) h16)
  have hS : StrsAre its.toArray.toList ks := by
    have := rv.strs
    simpa using this
  have hal : its.toArray.toList.length = ks.length := by simp [hlen0]
  have I1 : Inv X pins σ H { s with heap := h' } := I.kept (t' := s.toks) hk
  refine wpAny_bind (wpAny_newList ?_ (by rw [hal, sizeLine_eq]; omega))
  have hoL : (h'.push (seqObj "list" its.toArray.toList.toArray 0)).get? h'.objs.size = some (seqObj "list" its.toArray.toList.toArray 0) := Heap.get?_push_size _ rfl
  show wpAny _ _ _ _ _ { s with heap := h'.push (seqObj "list" its.toArray.toList.toArray 0) }
  refine wpAny_bind (wpAny_holding (wpAny_call_entry PyProof.Rows.slot_list_sort ⟨_, hoL, rfl⟩ PyProof.Rows.entry_list_sort
    (list_sort_treeK strKind_oneLt (s := { s with heap := h'.push (seqObj "list" its.toArray.toList.toArray 0) }) hoL hS.keysOf (fun v₁ v₂ rest e => keyKind_strs (by rw [← e]; exact hS)) (by rw [hal]; exact h64) fun st' hp hs => ⟨_, rfl, ?_⟩)
    (PyProof.Rows.args_list_sort _)))
  obtain ⟨ys, g1, g2, g3⟩ := sorted_out_str hS hp hs
  obtain ⟨e', he'⟩ := PyProof.Rows.sortedHeap_at (vs := its.toArray.toList) (out := (arrOf st').map (·.2)) hoL
  have hlen : (ys.map V.str).length ≤ sizeLine := by
    rw [List.length_map, g2.length_eq]
    exact Nat.le_trans (Nat.le_of_lt h64) (by decide)
  refine wpAny_pure ⟨_, rfl, .ref h'.objs.size, upd H h'.objs.size (.lst (ys.map V.str)), I1.laid (t' := s.toks) (fun b u e => ?_) (Nat.le_refl _)
    (show ObjOk X.prog X.w _ _ _ (.lst (ys.map V.str)) from ⟨hlen, ((arrOf st').map (·.2)).toList, e', vals_of_strs g1, by rw [Array.toArray_toList]; exact he'⟩), rfl, q ys _ g2 g3 (I1.hok.fresh (Nat.le_refl _))⟩
  have hb : b < h'.objs.size := Heap.lt_size e
  rw [PyProof.Rows.sortedHeap_old (Nat.ne_of_lt hb) (by rw [size_push']; exact Nat.lt_succ_of_lt hb)]
  exact Heap.get?_push_of_some _ e
end DL

set_option Elab.async false
set_option linter.all false
set_option maxRecDepth 100000
set_option maxHeartbeats 1000000
set_option autoImplicit false
/-! sorted, dict(..), dicts by comprehension with a test. -/
namespace DL
open PySem PySem.Spec PyProof.Rows L2
def rSortD : List V → Hp → VK → Prop := fun xs H Q => ∃ (a : Addr) (kvs : List (Key × V)) (ks : List Str), xs = [.ref a] ∧ L2.Rd H a (.dK kvs) ∧ kvs.map (·.1) = ks.map Sum.inr ∧ ks.length < 64 ∧ ∀ ys p, ys.Perm ks → sortedS ys = true → H p = none → Q (.ref p) (upd H p (.lst (ys.map V.str)))
def rSortU (K : PySem.W.Frag) : List V → Hp → VK → Prop := fun xs H Q => rSortedS K xs H Q ∨ (rSortD xs H Q ∨ rSortT K xs H Q)
theorem kx_sorted {X : Cx} (K : PySem.W.Frag) (hK : X.K = K) (hc : X.calm = true) : CallR X (.builtin "sorted") (rSortU K) := by
  subst hK
  exact CallR.or cr_sortedS (CallR.or (call_sortedD hc) cr_sortT)
section
variable {K : PySem.W.Frag} {δ : List (Option D)} {m : Mem} {Q : D → Mem → Prop}
theorem cw_sortL {ws : List Str} (h : ws.length < 64) (q : ∀ ys, ys.Perm ws → SortS ys → Q (.lst (ys.map .str)) m) : CW K (rSortU K) [.lst (ws.map .str)] m Q := fun H vs M a QQ k => by
  cases a with
  | cons a n =>
    cases n
    obtain ⟨p, xs, rfl, e, r⟩ := lst_at a
    have := r.strs_v
    subst this
    refine .inl ⟨p, ws, rfl, SqL.of e, h, fun ys z hp hs hz => ?_⟩
    obtain ⟨M2, s2, r3⟩ := new_lst M (RdL.strs (ns := ys)) hz
    exact k _ m _ _ (q ys hp (sortedS_pw hs)) s2 M2 r3
theorem cw_sortT {ws : List Str} (h : ws.length < 64) (q : ∀ ys, ys.Perm ws → SortS ys → Q (.lst (ys.map .str)) m) : CW K (rSortU K) [.tup (ws.map .str)] m Q := fun H vs M a QQ k => by
  cases a with
  | cons a n =>
    cases n
    obtain ⟨p, xs, rfl, e, r⟩ := tup_at a
    have := r.strs_v
    subst this
    refine .inr (.inr ⟨p, ws, rfl, e, h, fun ys z hp hs hz => ?_⟩)
    obtain ⟨M2, s2, r3⟩ := new_lst M (RdL.strs (ns := ys)) hz
    exact k _ m _ _ (q ys hp (sortedS_pw hs)) s2 M2 r3
theorem cw_sortD {kvs : List (Key × D)} {ks : List Str} (hk : kvs.map (·.1) = ks.map Sum.inr) (h : ks.length < 64) (q : ∀ ys, ys.Perm ks → SortS ys → Q (.lst (ys.map .str)) m) : CW K (rSortU K) [.dic kvs] m Q := fun H vs M a QQ k => by
  cases a with
  | cons a n =>
    cases n
    obtain ⟨p, xs, rfl, e, nm, r⟩ := dic_at a
    refine .inr (.inl ⟨p, xs, ks, rfl, .inl e, nm.trans hk, h, fun ys z hp hs hz => ?_⟩)
    obtain ⟨M2, s2, r3⟩ := new_lst M (RdL.strs (ns := ys)) hz
    exact k _ m _ _ (q ys hp (sortedS_pw hs)) s2 M2 r3
/-! ### dict(xs), xs a list of pairs -/
def rDictP (K : PySem.W.Frag) : List V → Hp → VK → Prop := fun xs H Q => ∃ (a : Addr) (ps : List Addr) (kvs : List (Key × V)), xs = [.ref a] ∧ SqL K H a (ps.map V.ref) ∧ Paired (fun p kv => SqT K H p [kV kv.1, kv.2]) ps kvs ∧ ∀ p, H p = none → Q (.ref p) (upd H p (.dK (mergeK [] kvs)))
theorem kx_dictP {X : Cx} (K : PySem.W.Frag) (hK : X.K = K) (hc : X.calm = true) : CallR X (.type "dict") (rDictP K) := by subst hK; exact call_dictP hc
theorem merge_nd : ∀ (more kvs : List (Key × V)), ((kvs ++ more).map Prod.fst).Nodup → mergeK kvs more = kvs ++ more
  | [], kvs, _ => by simp [mergeK]
  | (k, v) :: more, kvs, nd => by
    have hput : putK kvs k v = kvs ++ [(k, v)] := by
      unfold putK
      rw [if_neg]
      rw [List.any_eq_true]
      rintro ⟨kv, hkv, e⟩
      have e : kv.1 = k := of_decide_eq_true e
      rw [List.map_append, List.map_cons] at nd
      exact (List.nodup_append.mp nd).2.2 kv.1 (List.mem_map_of_mem hkv) k (by simp) e
    have ih := merge_nd more (kvs ++ [(k, v)]) (by rw [List.append_assoc]; exact nd)
    unfold mergeK at ih ⊢
    rw [List.foldl_cons, hput, ih, List.append_assoc]
    rfl
abbrev pairKD (kv : Key × D) : D := .tup [kD kv.1, kv.2]
theorem pairs_at {F : Hp} : ∀ {kvs : List (Key × D)} {vs : List V}, RdL K F vs (kvs.map pairKD) → ∃ (ps : List Addr) (ws : List (Key × V)), vs = ps.map V.ref ∧ Paired (fun p kv => SqT K F p [kV kv.1, kv.2]) ps ws ∧ ws.map Prod.fst = kvs.map Prod.fst ∧ RdL K F (ws.map Prod.snd) (kvs.map Prod.snd)
  | [], _, .nil => ⟨[], [], rfl, .nil, rfl, .nil⟩
  | kv :: kvs, _, .cons r rs => by
    obtain ⟨ps, ws, rfl, hp, hk, hr⟩ := pairs_at rs
    cases r with
    | tup e r =>
      cases r with
      | cons r1 r2 =>
        cases r2 with
        | cons r2 r3 =>
          cases r3
          have ev := kD_v r1
          subst ev
          exact ⟨_ :: ps, (kv.1, _) :: ws, rfl, .cons e hp, by rw [List.map_cons, List.map_cons, hk], .cons r2 hr⟩
theorem paired_mono {F G : Hp} (s : Sub F G) : ∀ {ps : List Addr} {ws : List (Key × V)}, Paired (fun p kv => SqT K F p [kV kv.1, kv.2]) ps ws → Paired (fun p kv => SqT K G p [kV kv.1, kv.2]) ps ws
  | _, _, .nil => .nil
  | _, _, .cons h t => .cons (s.sqt h) (paired_mono s t)
theorem cw_dictP {kvs : List (Key × D)} (nd : (kvs.map Prod.fst).Nodup) (q : Q (.dic kvs) m) : CW K (rDictP K) [.lst (kvs.map pairKD)] m Q := fun H vs M a QQ k => by
  cases a with
  | cons a n =>
    cases n
    obtain ⟨p, xs, rfl, e, r⟩ := lst_at a
    obtain ⟨ps, ws, rfl, hp, hk, hr⟩ := pairs_at r
    refine ⟨p, ps, ws, rfl, SqL.of e, paired_mono hide_le hp, fun z hz => ?_⟩
    rw [merge_nd ws [] (by rw [List.nil_append, hk]; exact nd), List.nil_append]
    obtain ⟨M2, s2⟩ := M.new (o := .dK ws) hz
    refine k _ m _ _ q s2 M2 (.dic ?_ hk (hr.mono s2))
    rw [hide_new M hz]
    exact upd_same
/-- a dict comprehension with a test -/
theorem ew_dcP {α : Type} {tk tv : TE} {vs : List Nat} {g : TG} {tt : TT} {wi : TI} (tm : Tame g vs) (h : IW K wi δ m fun ds m1 => ∃ (xs : List α) (f : α → D) (kf : α → Key) (vf : α → D) (p : α → Bool), ds = xs.map f ∧ xs.length ≤ sizeLine ∧ (xs.map kf).Nodup ∧
      (∀ (x : α) (acc : List (Key × D)) (z : Addr), x ∈ xs → GW K g (f x) (wipeD δ vs) (m1 ++ [(z, .dic acc)]) fun δ2 m2 => TW K tt δ2 m2 fun b m3 => b = p x ∧ m3 = m1 ++ [(z, .dic acc)] ∧ (b = true → EW K tk δ2 m3 fun y m4 => EW K tv δ2 m4 fun v m5 => y = kD (kf x) ∧ v = vf x ∧ m5 = m1 ++ [(z, .dic acc)])) ∧
      Q (.dic ((xs.filter p).map fun x => (kf x, vf x))) m1) : EW K (tDc wi g tt tk tv vs) δ m Q := by
  refine ew_dc tm fun σ H s M QQ k => h σ H s M QQ fun J H1 m1 ds ⟨xs, f, kf, vf, p, ed, hl, nd, st, q⟩ => k J H1 m1 ds ⟨fun j acc m' => acc = ((xs.take j).filter p).map (fun x => (kf x, vf x)) ∧ m' = m1, ⟨by simp, rfl⟩, ?_, ?_⟩
  · rintro j d acc m' z hj ⟨rfl, rfl⟩
    subst ed
    rw [List.getElem?_map] at hj
    cases c : xs[j]? with
    | none => rw [c] at hj; cases hj
    | some x =>
      rw [c] at hj
      cases hj
      have hlt := (List.getElem?_eq_some_iff.mp c).1
      have hle := List.length_filter_le p (xs.take j)
      rw [List.length_take] at hle
      have et0 : xs.take (j + 1) = xs.take j ++ [x] := by rw [List.take_add_one, c]; rfl
      have et : (xs.take (j + 1)).filter p = (xs.take j).filter p ++ (if p x = true then [x] else []) := by
        rw [et0, List.filter_append]
        congr 1
        by_cases hp : p x = true
        · rw [if_pos hp]; simp [hp]
        · rw [if_neg hp]; simp [hp]
      refine ⟨by rw [List.length_map]; omega, ?_⟩
      refine fun σ H v s M r QQ k => st x _ z (List.mem_of_getElem? c) σ H v s M r QQ fun δ' m' σ' H' q => k δ' m' σ' H' fun σ H s M QQ k => q σ H s M QQ fun b m2 H2 q => k b m2 H2 ?_
      obtain ⟨hb, hm, q⟩ := q
      cases hbb : b with
      | false =>
        rw [if_neg Bool.false_ne_true]
        refine ⟨_, hm, ?_, rfl⟩
        rw [et, ← hb, hbb, if_neg Bool.false_ne_true, List.append_nil]
      | true =>
        rw [if_pos rfl]
        have q := q hbb
        refine fun σ H s M QQ k => q σ H s M QQ fun y m4 v4 H4 q => k y m4 v4 H4 fun σ H s M QQ k => q σ H s M QQ fun y m4 v4 H4 q => k y m4 v4 H4 ?_
        obtain ⟨rfl, rfl, rfl⟩ := q
        refine ⟨_, _, rfl, rfl, ?_, rfl⟩
        rw [et, ← hb, hbb, if_pos rfl, List.map_append]
        refine putD_new fun q hq e => ?_
        obtain ⟨y, hy, rfl⟩ := List.mem_map.mp hq
        have n2 : ((xs.take (j + 1)).map kf).Nodup := nd.sublist ((List.take_sublist _ _).map kf)
        rw [et0, List.map_append] at n2
        exact (List.nodup_append.mp n2).2.2 (kf y) (List.mem_map_of_mem (List.mem_filter.mp hy).1) (kf x) (by simp) e
  · rintro acc m' ⟨rfl, rfl⟩
    subst ed
    rw [List.length_map, List.take_length]
    exact q
end
theorem Shw.intW {i : Int} (h : i.natAbs < 10 ^ 25) : Shw 0 26 (.int i) := by
  refine ⟨?_, by simp only [PyData.hasDict], by simp only [PyData.depth]; omega, ?_⟩
  · simp only [PyData.showable, decide_eq_true_eq]
    by_cases z : i.natAbs = 0
    · rw [z]; decide
    · rw [Nat.log2_lt z]
      exact Nat.lt_trans h (by decide)
  · have e := int_text_length_le10 (k := 25) (by decide) h
    show (Str.ofString (toString i)).length ≤ 26
    rw [PySem.ofString_length]
    exact e
theorem tw_mid {K : PySem.W.Frag} {δ : List (Option D)} {m : Mem} {tt : TT} {Q : Bool → Mem → Prop} (R : Bool → Mem → Prop) (h : TW K tt δ m R) (n : ∀ b m', R b m' → Q b m') : TW K tt δ m Q := fun σ H s M QQ k => h σ H s M QQ fun b m1 H1 q => k b m1 H1 (n b m1 q)
end DL

set_option Elab.async false
set_option linter.all false
set_option maxRecDepth 100000
set_option maxHeartbeats 1000000
set_option autoImplicit false
/-! Errors: raised, let through, caught. -/
namespace DL
open PySem PySem.Spec PyProof.Rows L2
/-- the cell of an error's dict -/
abbrev xc (x : D) : Cell := .xd [("value", x)]
/-- what leaves by an error: the slots, its class, its value, the cells -/
abbrev XS := List (Option D) → Addr → D → Mem → Prop
section
variable (K : PySem.W.Frag)
def MeetsX (R : XS) (F : Hp) (W : WX) : Prop := ∀ (δ : List (Option D)) (C : Addr) (x : D) (m : Mem) (dd : Addr) (σ : L2.St) (H : Hp), R δ C x m → Sub F (hide (m ++ [(dd, xc x)]) H) → Sl K (hide (m ++ [(dd, xc x)]) H) σ δ → MemOk K (m ++ [(dd, xc x)]) H → W (.ref C) (some dd) σ H
def SWX (t : WX → TS) (R : XS) (δ : List (Option D)) (m : Mem) (P : Ps) : Prop := ∀ (σ : L2.St) (H : Hp), Sl K (hide m H) σ δ → MemOk K m H → ∀ E : Ends, Meets K P (hide m H) E → ∀ W : WX, MeetsX K R (hide m H) W → t W E σ H
def EWX (t : WX → TE) (R : XS) (δ : List (Option D)) (m : Mem) (Q : D → Mem → Prop) : Prop := ∀ (σ : L2.St) (H : Hp), Sl K (hide m H) σ δ → MemOk K m H → ∀ QQ : VK,
  (∀ (d : D) (m' : Mem) (v : V) (H' : Hp), Q d m' → Sub (hide m H) (hide m' H') → MemOk K m' H' → Rd K (hide m' H') v d → QQ v H') → ∀ W : WX, MeetsX K R (hide m H) W → t W σ H QQ
end
/-- what a raising def promises -/
abbrev FX := List D → Mem → (D → Mem → Prop) → (Addr → D → Mem → Prop) → Prop
abbrev FXn (n : Nat) (F : FX) : FX := fun ds m Q R => ds.length = n ∧ F ds m Q R
abbrev FX.quiet (F : FX) : FS := fun ds m Q => F ds m Q fun _ _ _ => False
def spX (K : PySem.W.Frag) (Pf : FX) : Sp := fun vs H Q E => ∃ (ds : List D) (m : Mem) (QS : D → Mem → Prop) (R : Addr → D → Mem → Prop), RdL K (hide m H) vs ds ∧ MemOk K m H ∧ Pf ds m QS R ∧
  (∀ (d : D) (m' : Mem) (v : V) (H' : Hp), QS d m' → Sub (hide m H) (hide m' H') → MemOk K m' H' → Rd K (hide m' H') v d → Q v H') ∧
  ∀ (C : Addr) (x : D) (m' : Mem) (dd : Addr) (H' : Hp), R C x m' → Sub (hide m H) (hide (m' ++ [(dd, xc x)]) H') → MemOk K (m' ++ [(dd, xc x)]) H' → E (.ref C) (some dd) H'
section
variable {K : PySem.W.Frag} {δ : List (Option D)} {m : Mem} {Q : D → Mem → Prop} {P : Ps} {R R' : XS} {F F' : Hp} {W : WX} {t u : WX → TS} {te : WX → TE} {tt : TT}
theorem MeetsX.mono (h : MeetsX K R F W) (e : Sub F F') : MeetsX K R F' W := fun δ C x m dd σ H q s => h δ C x m dd σ H q (e.trans s)
theorem swx_of {t : TS} (h : SW K t δ m P) : SWX K (fun _ => t) R δ m P := fun σ H s M E k _ _ => h σ H s M E k
theorem swx_seq (h : SWX K t R δ m { P with nx := fun δ' m' => SWX K u R δ' m' P }) : SWX K (fun W => tSeq (t W) (u W)) R δ m P := fun σ H s M E k W kx =>
  h σ H s M { E with nx := u W E } ⟨fun δ' m' σ' H' q e s' M' => q σ' H' s' M' E (k.mono e) W (kx.mono e), k.rt, k.bk, k.ct⟩ W kx
theorem swx_if (h : TW K tt δ m fun b m1 => if b = true then SWX K t R δ m1 P else SWX K u R δ m1 P) : SWX K (fun W => tIfS tt (t W) (u W)) R δ m P := fun σ H s M E k W kx =>
  h σ H s M _ fun b m1 H1 q s1 M1 => by
    cases b with
    | true =>
      rw [if_pos rfl] at q
      exact q σ H1 (s.mono s1) M1 E (k.mono s1) W (kx.mono s1)
    | false =>
      rw [if_neg Bool.false_ne_true] at q
      exact q σ H1 (s.mono s1) M1 E (k.mono s1) W (kx.mono s1)
theorem swx_drop (h : EWX K te R δ m fun _ m1 => P.nx δ m1) : SWX K (fun W => tDrop (te W)) R δ m P := fun σ H s M E k W kx => h σ H s M _ (fun d m1 v1 H1 q1 s1 M1 r1 => k.nx δ m1 σ H1 q1 s1 (s.mono s1) M1) W kx
theorem swx_asg {i : Nat} (h : EWX K te R δ m fun d m1 => P.nx (δ.set i (some d)) m1) : SWX K (fun W => tAsg (te W) (gName i)) R δ m P := fun σ H s M E k W kx =>
  h σ H s M _ (fun d m1 v1 H1 q1 s1 M1 r1 => k.nx (δ.set i (some d)) m1 (σ.set i (some v1)) H1 q1 s1 ((s.mono s1).set i r1) M1) W kx
theorem swx_ret (h : EWX K te R δ m P.rt) : SWX K (fun W => tRet (te W)) R δ m P := fun σ H s M E k W kx => h σ H s M _ (fun d m1 v1 H1 q1 s1 M1 r1 => k.rt d m1 v1 H1 q1 s1 M1 r1) W kx
theorem swx_imp (h : SWX K t R δ m P) (i : ∀ δ C x m, R δ C x m → R' δ C x m) : SWX K t R' δ m P := fun σ H s M E k W kx => h σ H s M E k W fun δ C x m dd σ H q => kx δ C x m dd σ H (i δ C x m q)
theorem swx_mid {P' : Ps} (h : SWX K t R δ m P') (n : ∀ δ' m', P'.nx δ' m' → P.nx δ' m') (r : ∀ d m', P'.rt d m' → P.rt d m') (b : ∀ δ' m', P'.bk δ' m' → P.bk δ' m') (c : ∀ δ' m', P'.ct δ' m' → P.ct δ' m') : SWX K t R δ m P := fun σ H s M E k W kx =>
  h σ H s M E ⟨fun δ' m' σ' H' q => k.nx δ' m' σ' H' (n _ _ q), fun d m' v H' q => k.rt d m' v H' (r _ _ q), fun δ' m' σ' H' q => k.bk δ' m' σ' H' (b _ _ q), fun δ' m' σ' H' q => k.ct δ' m' σ' H' (c _ _ q)⟩ W kx
theorem swx_for {wi : TI} {g : TG} (h : IW K wi δ m fun ds m1 => ∃ Iv : Nat → List (Option D) → Mem → Prop, Iv 0 δ m1 ∧
      (∀ (j : Nat) (d : D) (δ' : List (Option D)) (m' : Mem), ds[j]? = some d → Iv j δ' m' → GW K g d δ' m' fun δ2 m2 => SWX K t R δ2 m2 { nx := Iv (j + 1), ct := Iv (j + 1), bk := P.nx, rt := P.rt }) ∧
      (∀ (δ' : List (Option D)) (m' : Mem), Iv ds.length δ' m' → P.nx δ' m')) : SWX K (fun W => tFor wi g (t W)) R δ m P := fun σ H s M E k W kx =>
  h σ H s M _ fun J H1 m1 ds ⟨Iv, h0, hs, hd⟩ s1 M1 fe => by
    refine ⟨fun i n σ' H' => n = ds.length - i ∧ i ≤ ds.length ∧ ∃ δ' m', Iv i δ' m' ∧ Sub (hide m1 H1) (hide m' H') ∧ Sl K (hide m' H') σ' δ' ∧ MemOk K m' H', ⟨ds.length, rfl, Nat.zero_le _, δ, m1, h0, Sub.refl _, s.mono s1, M1⟩, ?_⟩
    rintro i n σ' H' ⟨rfl, hi, δ', m', hI, s2, S2, M2⟩
    by_cases hlt : i < ds.length
    · refine .inr ⟨fe.go i m' H' s2 M2 hlt, fun σ3 H3 => ∃ δ3 m3, Iv (i + 1) δ3 m3 ∧ Sub (hide m1 H1) (hide m3 H3) ∧ Sl K (hide m3 H3) σ3 δ3 ∧ MemOk K m3 H3, fun σ3 H3 q => ⟨ds.length - (i + 1), by omega, rfl, hlt, q⟩, fun x H3 y => ?_⟩
      have hdi : ds[i]? = some ds[i] := List.getElem?_eq_getElem hlt
      obtain ⟨s3, M3, r3⟩ := fe.yld i m' H' x H3 _ s2 M2 hdi y
      refine hs i _ δ' m' hdi hI σ' H3 x (S2.mono s3) M3 r3 _ fun δ4 m4 σ4 H4 q4 s4 S4 M4 => ?_
      have s34 : Sub (hide m1 H1) (hide m4 H4) := s2.trans (s3.trans s4)
      refine q4 σ4 H4 S4 M4 _ ⟨?_, ?_, ?_, ?_⟩ W (kx.mono (s1.trans s34))
      · exact fun δ5 m5 σ5 H5 q5 s5 S5 M5 => ⟨δ5, m5, q5, s34.trans s5, S5, M5⟩
      · exact fun d m5 v H5 q5 s5 M5 r5 => k.rt d m5 v H5 q5 (s1.trans (s34.trans s5)) M5 r5
      · exact fun δ5 m5 σ5 H5 q5 s5 S5 M5 => k.nx δ5 m5 σ5 H5 q5 (s1.trans (s34.trans s5)) S5 M5
      · exact fun δ5 m5 σ5 H5 q5 s5 S5 M5 => ⟨δ5, m5, q5, s34.trans s5, S5, M5⟩
    · have e : i = ds.length := by omega
      subst e
      exact .inl ⟨fe.stop m' H' s2 M2, k.nx δ' m' σ' H' (hd δ' m' hI) (s1.trans s2) S2 M2⟩
theorem swx_forX {wi : TI} {g : TG} (h : IW K wi δ m fun ds m1 => ∃ (α : Type) (xs : List α) (f : α → D), ds = xs.map f ∧ ∃ Iv : Nat → List (Option D) → Mem → Prop, Iv 0 δ m1 ∧
      (∀ (j : Nat) (x : α) (δ' : List (Option D)) (m' : Mem), xs[j]? = some x → Iv j δ' m' → GW K g (f x) δ' m' fun δ2 m2 => SWX K t R δ2 m2 { nx := Iv (j + 1), ct := Iv (j + 1), bk := P.nx, rt := P.rt }) ∧
      ∀ (δ' : List (Option D)) (m' : Mem), Iv xs.length δ' m' → P.nx δ' m') : SWX K (fun W => tFor wi g (t W)) R δ m P :=
  swx_for fun σ H s M QQ kk => h σ H s M QQ fun J H1 m1 ds ⟨α, xs, f, ed, Iv, h0, hs, hd⟩ => kk J H1 m1 ds ⟨Iv, h0, fun j d δ' m' hj hI => by
    subst ed
    rw [List.getElem?_map] at hj
    cases c : xs[j]? with
    | none => rw [c] at hj; cases hj
    | some x =>
      rw [c] at hj
      cases hj
      exact hs j x δ' m' c hI, fun δ' m' hI => hd δ' m' (by rw [ed, List.length_map] at hI; exact hI)⟩
theorem swx_forQ {tl : TE} {g : TG} (h : EW K tl δ m fun x m1 => ∃ (α : Type) (xs : List α) (f : α → D), SeqIn m1 x (xs.map f) ∧ ∃ Iv : Nat → List (Option D) → Mem → Prop, Iv 0 δ m1 ∧ (∀ (j : Nat) (δ' : List (Option D)) (m' : Mem), Iv j δ' m' → SeqIn m' x (xs.map f)) ∧
      (∀ (j : Nat) (y : α) (δ' : List (Option D)) (m' : Mem), xs[j]? = some y → Iv j δ' m' → GW K g (f y) δ' m' fun δ2 m2 => SWX K t R δ2 m2 { nx := Iv (j + 1), ct := Iv (j + 1), bk := P.nx, rt := P.rt }) ∧
      (∀ (δ' : List (Option D)) (m' : Mem), Iv xs.length δ' m' → P.nx δ' m')) : SWX K (fun W => tFor (iAny K tl) g (t W)) R δ m P := fun σ H s M E k W kx =>
  h σ H s M _ fun x m1 v H1 ⟨α, xs, f, hx, Iv, h0, hsq, hs, hd⟩ s1 M1 r1 => by
    obtain ⟨a, ws, rfl, ea, ra⟩ := hx.get M1 r1
    refine .inl ⟨a, rfl, ⟨ws, SqL.of ea⟩, ?_⟩
    refine ⟨fun i n σ' H' => n = xs.length - i ∧ i ≤ xs.length ∧ ∃ δ' m', Iv i δ' m' ∧ Sub (hide m1 H1) (hide m' H') ∧ Sl K (hide m' H') σ' δ' ∧ MemOk K m' H', ⟨xs.length, rfl, Nat.zero_le _, δ, m1, h0, Sub.refl _, s.mono s1, M1⟩, ?_⟩
    rintro i n σ' H' ⟨rfl, hi, δ', m', hI, s2, S2, M2⟩
    obtain ⟨a', ws', ev, ea', ra'⟩ := (hsq i δ' m' hI).get M2 (r1.mono s2)
    cases ev
    have lw : ws'.length = xs.length := by rw [ra'.length, List.length_map]
    by_cases hlt : i < xs.length
    · refine .inr ⟨⟨ws', ws'[i]'(by omega), SqL.of ea', by simp [lw, hlt]⟩, fun σ3 H3 => ∃ δ3 m3, Iv (i + 1) δ3 m3 ∧ Sub (hide m1 H1) (hide m3 H3) ∧ Sl K (hide m3 H3) σ3 δ3 ∧ MemOk K m3 H3, fun σ3 H3 q => ⟨xs.length - (i + 1), by omega, rfl, hlt, q⟩, fun x3 H3 y => ?_⟩
      have hdi : xs[i]? = some xs[i] := List.getElem?_eq_getElem hlt
      obtain ⟨rfl, y⟩ := y
      obtain ⟨u, h1, h2⟩ := ra'.get (show (xs.map f)[i]? = some (f xs[i]) by rw [List.getElem?_map, hdi]; rfl)
      have z := y ws' (SqL.of ea')
      rw [h1] at z
      cases z
      refine hs i _ δ' m' hdi hI σ' _ _ S2 M2 h2 _ fun δ4 m4 σ4 H4 q4 s4 S4 M4 => ?_
      have s34 : Sub (hide m1 H1) (hide m4 H4) := s2.trans s4
      refine q4 σ4 H4 S4 M4 _ ⟨?_, ?_, ?_, ?_⟩ W (kx.mono (s1.trans s34))
      · exact fun δ5 m5 σ5 H5 q5 s5 S5 M5 => ⟨δ5, m5, q5, s34.trans s5, S5, M5⟩
      · exact fun d m5 v H5 q5 s5 M5 r5 => k.rt d m5 v H5 q5 (s1.trans (s34.trans s5)) M5 r5
      · exact fun δ5 m5 σ5 H5 q5 s5 S5 M5 => k.nx δ5 m5 σ5 H5 q5 (s1.trans (s34.trans s5)) S5 M5
      · exact fun δ5 m5 σ5 H5 q5 s5 S5 M5 => ⟨δ5, m5, q5, s34.trans s5, S5, M5⟩
    · have e : i = xs.length := by omega
      subst e
      exact .inl ⟨⟨ws', SqL.of ea', by omega⟩, k.nx δ' m' σ' H' (hd δ' m' hI) (s1.trans s2) S2 M2⟩
end
/-! ### defs that raise -/
section
variable {P : Program} {w : World} {K : PySem.W.Frag} {mg : Str → Option Value} {base : Heap} {k : Nat} {f : Addr} {ps : List Str} {Pf : FX}
def DefX (P : Program) (w : World) (K : PySem.W.Frag) (mg : Str → Option Value) (base : Heap) (k : Nat) (f : Addr) (ps : List Str) (Pf : FX) : Prop := ∃ fd, FnOk P w K mg base (CX P w) k f fd ps (spX K Pf) ∧ Binds K fd ps [] ∧ FdAt K f fd
theorem DefX.up {j : Nat} (h : DefX P w K mg base j f ps Pf) (l : j ≤ k) : DefX P w K mg base k f ps Pf := let ⟨fd, F, b⟩ := h; ⟨fd, F.mono l, b⟩
/-- where it raises nothing -/
theorem DefX.quiet (h : DefX P w K mg base k f ps Pf) : Def P w K mg base k f ps Pf.quiet := by
  obtain ⟨fd, F, b, e⟩ := h
  have up : ∀ {vs : List V} {H : Hp} {Q : VK} {E : XK}, spOf K Pf.quiet vs H Q E → spX K Pf vs H Q fun _ _ _ => False := fun {vs H Q E} ⟨ds, m, QS, r, M, p, q⟩ => ⟨ds, m, QS, _, r, M, p, q, fun _ _ _ _ _ z => z.elim⟩
  refine ⟨fd, ⟨fun vs H Q E q => F.len vs H Q _ (up q), fun A outer s H args us vs Q E hr he hb hv q => codeAny_mono (F.run A outer s H args us vs Q _ hr he hb hv (up q)) fun r s' c => ?_⟩, b, e⟩
  match r, c with
  | .error e, c => obtain ⟨_, _, _, _, _, _, _, _, _, _, _, _, z⟩ := c; exact z.elim
  | .ok (.ret u), c => exact c
  | .ok .next, c => exact c
  | .ok .brk, c => exact c
  | .ok .cont, c => exact c
theorem defOkX {x qual : Str} {st : Stmt} {N : List Str} (h : Has K x qual st f ps) (S : FnScope N ps (defScope st)) {t : WX → TS} (hlen : ∀ ds m Q R, Pf ds m Q R → ds.length = ps.length)
    (hd : ∀ (W : WX) (cdv : Value) (A : Around) (outer : List Env) (s : Shared) (H : Hp) (E : XK), Room k (A.deeper (envOfC qual (defScope st) s.heap.objs.size f cdv)) → Takes (cxOf (CX P w) P w K mg base N qual (defScope st) f cdv A outer s H E) W →
      PassesOwn (model P w) (cxOf (CX P w) P w K mg base N qual (defScope st) f cdv A outer s H E).A (cxOf (CX P w) P w K mg base N qual (defScope st) f cdv A outer s H E).env (cxOf (CX P w) P w K mg base N qual (defScope st) f cdv A outer s H E).xe →
      ∃ t', PSs (cxOf (CX P w) P w K mg base N qual (defScope st) f cdv A outer s H E) (defBody st) t' ∧ t' = t W)
    (hs : ∀ ds m (Q : D → Mem → Prop) (R : Addr → D → Mem → Prop), Pf ds m Q R → SWX K t (fun _ => R) (startD N.length ds) m { nx := fun _ m' => Q .non m', rt := Q }) : DefX P w K mg base (k + 1) f ps Pf := by
  obtain ⟨fd, F, b⟩ := h
  have F0 := F
  obtain ⟨oc, od, dV, kV, dc, pm, an, cd, ct, sl, rfl, hcd, lk⟩ := F.is
  refine ⟨_, fn_of lk hcd S (fun vs H Q E h => ?_) (fun A outer s H vs Q E hr h => ?_), b, Fnc.fdAt F0⟩
  · obtain ⟨ds, m, QS, R, r, _, p, _⟩ := h
    rw [r.length]
    exact hlen _ _ _ _ p
  · obtain ⟨t', der, et⟩ := hd (fun cls d _ H => E cls d H) _ A outer s H E hr (takes_of rfl rfl rfl rfl) (passes_of rfl)
    refine ⟨t', der, ?_⟩
    rw [et]
    obtain ⟨ds, m, QS, R, r, M, p, k, kx⟩ := h
    exact hs ds m QS R p _ _ (sl_start r) M _ ⟨fun δ' m' σ' H' q e s' M' => k .non m' .non H' q e M' .non, fun d m' v H' q e M' r' => k d m' v H' q e M' r', fun _ _ _ _ q => q.elim, fun _ _ _ _ q => q.elim⟩ _
      fun δ C x m' dd σ H' q e _ M' => kx C x m' dd H' q e M'
end
end DL

set_option Elab.async false
set_option linter.all false
set_option maxRecDepth 100000
set_option maxHeartbeats 1000000
set_option autoImplicit false
/-! Errors: calls that raise, raise itself, try. -/
namespace DL
open PySem PySem.Spec PyProof.Rows L2
section
variable {X : Cx} {CX : CXT} {k n : Nat} {f C : Addr} {fd : FuncData} {ps ks : List Str} {sp : Sp} {E : XK} {g : List Value → List Value → List Value} {gV : List V → List V → List V}
theorem go_fnN {pins : List (Addr × Obj)} {σ : L2.St} {H : Hp} {s : Shared} {Q : VK} {us ws : List Value} {vs zs : List V} (F : FnOk X.prog X.w X.K X.mg X.base CX k f fd ps sp) (room : Room k X.A) (kb : KBn X.K fd ps n ks g gV) (out : PassesAt CX X σ E)
    (J : Inv X pins σ H s) (rv : Vals vs us) (rz : Vals zs ws) (len1 : vs.length = n) (len2 : zs.length = ks.length) (wish : sp (gV vs zs) H Q E) : wpAny (model X.prog X.w) X.A (call (.ref f) us (ks.zip ws)) (EP X pins σ Q) X.xe s := by
  apply wpAny_call
  have bound := kb.to s us ws J.kIn (by rw [← rv.length, len1]) (by rw [← rz.length, len2])
  refine codeAny_mono (F.run X.A X.stack s H _ _ _ Q E room J.env0 bound (kb.rel rv rz) wish) fun res s2 c => ?_
  match res, c with
  | .error er, c => exact out pins H s er s2 J c
  | .ok (.ret u), c => exact J.after c
  | .ok .next, c => exact c.elim
  | .ok .brk, c => exact c.elim
  | .ok .cont, c => exact c.elim
end
section
variable {X : Cx} {k n : Nat} {f C : Addr} {fd : FuncData} {ps ks : List Str} {sp : Sp} {W : WX} {g : List Value → List Value → List Value} {gV : List V → List V → List V}
theorem go_makeN {pins : List (Addr × Obj)} {σ : L2.St} {H : Hp} {s : Shared} {Q : VK} {us ws : List Value} {vs zs : List V} (M : Mk X.K C f) (F : FnOk X.prog X.w X.K X.mg X.base (L2.CX X.prog X.w) k f fd ps sp) (room : Room (k + 1) X.A) (kb : KBn X.K fd ps (n + 1) ks g gV)
    (out : PassesAt (L2.CX X.prog X.w) X σ (WE W σ)) (J : Inv X pins σ H s) (rv : Vals vs us) (rz : Vals zs ws) (len1 : vs.length = n) (len2 : zs.length = ks.length)
    (wish : ∀ x dx, H x = none → H dx = none → dx ≠ x → sp (gV (.ref x :: vs) zs) (upd (upd H dx (.own x)) x (.ins C dx [])) (fun v H2 => v = .non ∧ Q (.ref x) H2) (WE W σ)) :
    wpAny (model X.prog X.w) X.A (call (.ref C) us (ks.zip ws)) (EP X pins σ Q) X.xe s := by
  have J2 := Inv.made (C := C) J
  have q := wish (s.heap.objs.size + 1) s.heap.objs.size (J.hok.fresh (Nat.le_succ _)) (J.hok.fresh (Nat.le_refl _)) (Nat.ne_of_lt (Nat.lt_succ_self _))
  have rv1 : Vals (V.ref (s.heap.objs.size + 1) :: vs) (Value.ref (s.heap.objs.size + 1) :: us) := .cons rfl rv
  have bound := kb.to _ (Value.ref (s.heap.objs.size + 1) :: us) ws J2.kIn (by rw [← rv1.length, List.length_cons, len1]) (by rw [← rz.length, len2])
  refine wpAny_call (make_map (f := f) J.kIn M.makes M.init (beq_iff_eq.mp M.fn) (codeAny_mono (F.run _ X.stack _ _ _ _ _ _ (WE W σ) (room.make C us (ks.zip ws)) (J2.env0.make C us (ks.zip ws)) bound (kb.rel rv1 rz) q) fun res s2 c => ?_))
  match res, c with
  | .error er, c => exact out pins _ _ er s2 J2 c
  | .ok (.ret u), c =>
    obtain ⟨v, H', J3, rv3, ev, q3⟩ := J2.after c
    subst ev
    exact ⟨rv3, ⟨V.ref (s.heap.objs.size + 1), H', J3, rfl, q3⟩⟩
  | .ok .next, c => exact c.elim
  | .ok .brk, c => exact c.elim
  | .ok .cont, c => exact c.elim
end
def tFunX (K : PySem.W.Frag) (n m : Nat) (idx : List Nat) (dd : List D) (sp : Sp) (t tk : TA) (W : WX) : TE := fun σ => tFunS K n m idx dd sp (WE W σ) t tk σ
def tMethX (K : PySem.W.Frag) (C : Addr) (nm : Str) (n m : Nat) (idx : List Nat) (dd : List D) (sp : Sp) (ta : TE) (t tk : TA) (W : WX) : TE := fun σ => tMethS K C nm n m idx dd sp (WE W σ) ta t tk σ
def tMakeX (K : PySem.W.Frag) (C : Addr) (n m : Nat) (idx : List Nat) (dd : List D) (sp : Sp) (t tk : TA) (W : WX) : TE := fun σ => tMakeS K C n m idx dd sp (WE W σ) t tk σ
section
variable {X : Cx} {k n : Nat} {f C : Addr} {ps ks : List Str} {Pf : FX} {W : WX} {x nm : Str} {p pos apos : Pos} {e o : Expr} {es : List Expr} {kws : List Keyword} {ta : TE} {t tk : TA} {idx : List Nat} {dd : List D} (K : PySem.W.Frag) (hK : X.K = K)
include hK
theorem kx_funX (D : DefX X.prog X.w K X.mg X.base k f ps Pf) (kb : KBS K f ps n ks idx dd) (hr : Room k X.A) (hg : Gl X x) (hm : X.mg x = some (.ref f)) (hk : PySem.W.keepIn K (.ref f) = true) (ha : PA X (e :: es) t) (hkw : PK X kws tk) (tkW : Takes X W)
    (hall : (backToKw pos (keywordEach kws X.env)).all (·.1.isSome) = true := by rfl) (hks : (backToKw pos (keywordEach kws X.env)).filterMap (·.1) = ks := by rfl)
    (hdb : (x == ("__debug__" : Str)) = false := by decide) (he : starEach (e :: es) X.env = (false, eval e X.env) :: starEach es X.env := by rfl)
    (hpl : ((backTo pos (starEach (e :: es) X.env)).any (·.1) || (backToKw pos (keywordEach kws X.env)).any (·.1.isNone)) = false := by rfl) :
    PE X (.Call (.Name x p) (e :: es) kws pos) (tFunX K n ks.length idx dd (spX K Pf) t tk W) := by
  subst hK
  obtain ⟨fd, F, _, fe⟩ := D
  obtain ⟨its, dvs, hd, kbn⟩ := kb.kbn fe
  refine ⟨fun pins s σ H Q I h => ?_⟩
  refine wpAny_Call_Name_kw (ld_glob I hg hm ?_ hdb)
  refine PySem.W.callWith_KW (h₀ := X.base) I.ok.mod.kin hk hall (thn (ha.run pos pins s σ H _ I h) fun us s1 ⟨vs, H1, I1, r, q⟩ => ?_) hpl he
  refine thn (hkw.run pos pins s1 σ H1 _ I1 q) fun ws s2 ⟨zs, H2, I2, rz, l1, l2, q2⟩ => ⟨I2.kIn, ?_⟩
  rw [hks]
  exact go_fnN F hr kbn (passAt tkW σ) I2 r rz l1 l2 (q2 dvs hd)
theorem kx_funX0 (D : DefX X.prog X.w K X.mg X.base k f ps Pf) (kb : KBS K f ps 0 ks idx dd) (hr : Room k X.A) (hg : Gl X x) (hm : X.mg x = some (.ref f)) (hk : PySem.W.keepIn K (.ref f) = true) (hkw : PK X kws tk) (tkW : Takes X W)
    (hall : (backToKw pos (keywordEach kws X.env)).all (·.1.isSome) = true := by rfl) (hks : (backToKw pos (keywordEach kws X.env)).filterMap (·.1) = ks := by rfl)
    (hdb : (x == ("__debug__" : Str)) = false := by decide)
    (hpl : ((backTo pos (starEach [] X.env)).any (·.1) || (backToKw pos (keywordEach kws X.env)).any (·.1.isNone)) = false := by rfl) :
    PE X (.Call (.Name x p) [] kws pos) (tFunX K 0 ks.length idx dd (spX K Pf) tNil tk W) := by
  subst hK
  obtain ⟨fd, F, _, fe⟩ := D
  obtain ⟨its, dvs, hd, kbn⟩ := kb.kbn fe
  refine ⟨fun pins s σ H Q I h => ?_⟩
  refine wpAny_Call_Name_kw (ld_glob I hg hm ?_ hdb)
  refine PySem.W.callWith_KW0 (h₀ := X.base) I.ok.mod.kin hk hall ?_ hpl
  refine thn (hkw.run pos pins s σ H _ I h) fun ws s2 ⟨zs, H2, I2, rz, l1, l2, q2⟩ => ⟨I2.kIn, ?_⟩
  rw [hks]
  exact go_fnN (us := []) (vs := []) F hr kbn (passAt tkW σ) I2 .nil rz l1 l2 (q2 dvs hd)
theorem kx_methX {pl : Sem Bool} (he : PE X o ta) (c : Cls K C) (hm : Meth K C nm f) (D : DefX X.prog X.w K X.mg X.base k f ps Pf) (kb : KBS K f ps (n + 1) ks idx dd) (hr : Room k X.A) (ha : PA X (e :: es) t) (hkw : PK X kws tk) (tkW : Takes X W)
    (hall : (backToKw pos (keywordEach kws X.env)).all (·.1.isSome) = true := by rfl) (hks : (backToKw pos (keywordEach kws X.env)).filterMap (·.1) = ks := by rfl)
    (hst : starEach (e :: es) X.env = (false, eval e X.env) :: starEach es X.env := by rfl)
    (hpl : ((backTo pos (starEach (e :: es) X.env)).any (·.1) || (backToKw pos (keywordEach kws X.env)).any (·.1.isNone)) = false := by rfl)
    (ht : eval (.Call (.Attribute o nm apos) (e :: es) kws pos) X.env = (do
      let ov ← eval o X.env
      standAt apos.atName
      let (f, first) ← holding [ov] (getMethod ov nm pl)
      callWith pos f first (backTo pos (starEach (e :: es) X.env)) (backToKw pos (keywordEach kws X.env))) := by rfl) :
    PE X (.Call (.Attribute o nm apos) (e :: es) kws pos) (tMethX K C nm n ks.length idx dd (spX K Pf) ta t tk W) := by
  subst hK
  obtain ⟨fd, F, _, fe⟩ := D
  obtain ⟨its, dvs, hd, kbn⟩ := kb.kbn fe
  refine ⟨fun pins s σ H Q I h => ?_⟩
  refine PySem.W.methodCall_KW (pl := pl) (thn (he.run pins s σ H _ I h) fun u s1 ⟨x, H1, I1, rx, a, dx, fs, ex, ea, l, q⟩ => ?_) ht
  subst ex
  obtain rfl : u = Value.ref a := rx
  refine getmeth_ok I1 ea c hm l ?_
  refine PySem.W.callWith_KW (first := [.ref a]) (h₀ := X.base) I.ok.mod.kin hm.kp hall (thn (ha.run pos pins s1 σ H1 _ I1 q) fun us s2 ⟨vs, H2, I2, r, q2⟩ => ?_) hpl hst
  refine thn (hkw.run pos pins s2 σ H2 _ I2 q2) fun ws s3 ⟨zs, H3, I3, rz, l1, l2, q3⟩ => ⟨I3.kIn, ?_⟩
  rw [hks]
  exact go_fnN (us := .ref a :: us) (vs := .ref a :: vs) F hr kbn (passAt tkW σ) I3 (.cons rfl r) rz (congrArg Nat.succ l1) l2 (q3 dvs hd)
theorem kx_methX0 {pl : Sem Bool} (he : PE X o ta) (c : Cls K C) (hm : Meth K C nm f) (D : DefX X.prog X.w K X.mg X.base k f ps Pf) (kb : KBS K f ps (0 + 1) ks idx dd) (hr : Room k X.A) (hkw : PK X kws tk) (tkW : Takes X W)
    (hall : (backToKw pos (keywordEach kws X.env)).all (·.1.isSome) = true := by rfl) (hks : (backToKw pos (keywordEach kws X.env)).filterMap (·.1) = ks := by rfl)
    (hpl : ((backTo pos (starEach [] X.env)).any (·.1) || (backToKw pos (keywordEach kws X.env)).any (·.1.isNone)) = false := by rfl)
    (ht : eval (.Call (.Attribute o nm apos) [] kws pos) X.env = (do
      let ov ← eval o X.env
      standAt apos.atName
      let (f, first) ← holding [ov] (getMethod ov nm pl)
      callWith pos f first (backTo pos (starEach [] X.env)) (backToKw pos (keywordEach kws X.env))) := by rfl) :
    PE X (.Call (.Attribute o nm apos) [] kws pos) (tMethX K C nm 0 ks.length idx dd (spX K Pf) ta tNil tk W) := by
  subst hK
  obtain ⟨fd, F, _, fe⟩ := D
  obtain ⟨its, dvs, hd, kbn⟩ := kb.kbn fe
  refine ⟨fun pins s σ H Q I h => ?_⟩
  refine PySem.W.methodCall_KW (pl := pl) (thn (he.run pins s σ H _ I h) fun u s1 ⟨x, H1, I1, rx, a, dx, fs, ex, ea, l, q⟩ => ?_) ht
  subst ex
  obtain rfl : u = Value.ref a := rx
  refine getmeth_ok I1 ea c hm l ?_
  refine PySem.W.callWith_KW0 (first := [.ref a]) (h₀ := X.base) I.ok.mod.kin hm.kp hall ?_ hpl
  refine thn (hkw.run pos pins s1 σ H1 _ I1 q) fun ws s3 ⟨zs, H3, I3, rz, l1, l2, q3⟩ => ⟨I3.kIn, ?_⟩
  rw [hks]
  exact go_fnN (us := [.ref a]) (vs := [.ref a]) F hr kbn (passAt tkW σ) I3 (.cons rfl .nil) rz rfl l2 (q3 dvs hd)
theorem kx_makeX (M : Mk K C f) (D : DefX X.prog X.w K X.mg X.base k f ps Pf) (kb : KBS K f ps (n + 1) ks idx dd) (hr : Room (k + 1) X.A) (hg : Gl X x) (hm : X.mg x = some (.ref C)) (ha : PA X (e :: es) t) (hkw : PK X kws tk) (tkW : Takes X W)
    (hall : (backToKw pos (keywordEach kws X.env)).all (·.1.isSome) = true := by rfl) (hks : (backToKw pos (keywordEach kws X.env)).filterMap (·.1) = ks := by rfl)
    (hdb : (x == ("__debug__" : Str)) = false := by decide) (he : starEach (e :: es) X.env = (false, eval e X.env) :: starEach es X.env := by rfl)
    (hpl : ((backTo pos (starEach (e :: es) X.env)).any (·.1) || (backToKw pos (keywordEach kws X.env)).any (·.1.isNone)) = false := by rfl) :
    PE X (.Call (.Name x p) (e :: es) kws pos) (tMakeX K C n ks.length idx dd (spX K Pf) t tk W) := by
  subst hK
  obtain ⟨fd, F, _, fe⟩ := D
  obtain ⟨its, dvs, hd, kbn⟩ := kb.kbn fe
  refine ⟨fun pins s σ H Q I h => ?_⟩
  refine wpAny_Call_Name_kw (ld_glob I hg hm ?_ hdb)
  refine PySem.W.callWith_KW (h₀ := X.base) I.ok.mod.kin M.kp hall (thn (ha.run pos pins s σ H _ I h) fun us s1 ⟨vs, H1, I1, r, q⟩ => ?_) hpl he
  refine thn (hkw.run pos pins s1 σ H1 _ I1 q) fun ws s2 ⟨zs, H2, I2, rz, l1, l2, q2⟩ => ⟨I2.kIn, ?_⟩
  rw [hks]
  exact go_makeN M F hr kbn (passAt tkW σ) I2 r rz l1 l2 (q2 dvs hd)
theorem kx_makeX0 (M : Mk K C f) (D : DefX X.prog X.w K X.mg X.base k f ps Pf) (kb : KBS K f ps (0 + 1) ks idx dd) (hr : Room (k + 1) X.A) (hg : Gl X x) (hm : X.mg x = some (.ref C)) (hkw : PK X kws tk) (tkW : Takes X W)
    (hall : (backToKw pos (keywordEach kws X.env)).all (·.1.isSome) = true := by rfl) (hks : (backToKw pos (keywordEach kws X.env)).filterMap (·.1) = ks := by rfl)
    (hdb : (x == ("__debug__" : Str)) = false := by decide)
    (hpl : ((backTo pos (starEach [] X.env)).any (·.1) || (backToKw pos (keywordEach kws X.env)).any (·.1.isNone)) = false := by rfl) :
    PE X (.Call (.Name x p) [] kws pos) (tMakeX K C 0 ks.length idx dd (spX K Pf) tNil tk W) := by
  subst hK
  obtain ⟨fd, F, _, fe⟩ := D
  obtain ⟨its, dvs, hd, kbn⟩ := kb.kbn fe
  refine ⟨fun pins s σ H Q I h => ?_⟩
  refine wpAny_Call_Name_kw (ld_glob I hg hm ?_ hdb)
  refine PySem.W.callWith_KW0 (h₀ := X.base) I.ok.mod.kin M.kp hall ?_ hpl
  refine thn (hkw.run pos pins s σ H _ I h) fun ws s2 ⟨zs, H2, I2, rz, l1, l2, q2⟩ => ⟨I2.kIn, ?_⟩
  rw [hks]
  exact go_makeN (us := []) (vs := []) M F hr kbn (passAt tkW σ) I2 .nil rz l1 l2 (q2 dvs hd)
end
/-! ### o[i] that raises -/
def tSubX (C : Addr) (sp : Sp) (ta tb : TE) (W : WX) : TE := fun σ H Q => ta σ H fun x H1 => tb σ H1 fun y H2 => ∃ a dx fs, x = .ref a ∧ H2 a = some (.ins C dx fs) ∧ sp [.ref a, y] H2 Q (WE W σ)
theorem kx_subX {X : Cx} {k : Nat} {f C : Addr} {ps : List Str} {Pf : FX} {a b : Expr} {ta tb : TE} {pos : Pos} {W : WX} (K : PySem.W.Frag) (hK : X.K = K) (hs : PySem.W.findIn K (.ref C) "__getitem__" = some (some (.ref f)) ∧ PySem.W.isFn K (.ref f) = true ∧ PySem.W.fnIn K f = true) (D : DefX X.prog X.w K X.mg X.base k f ps Pf)
    (hr : Room (k + 1) X.A) (ha : PE X a ta) (hb : PE X b tb) (tkW : Takes X W)
    (hsl : ∀ (x : Addr) (i : Value), subscripted b true (.ref x) i = runValue (.builtin "lifetime.subscript" ⟨[.ref x, i], []⟩)) : PE X (.Subscript a b pos) (tSubX C (spX K Pf) ta tb W) := by
  subst hK
  obtain ⟨fd, F, bd, _⟩ := D
  refine ⟨fun pins s σ H Q I h => ?_⟩
  refine Subscript_ (thn (ha.run pins s σ H _ I h) fun v s1 ⟨x, H1, I1, r1, q1⟩ => thn (hb.run pins s1 σ H1 _ I1 q1) fun u s2 ⟨y, H2, I2, r2, q2⟩ => ?_)
  obtain ⟨p, dx, fs, rfl, ea, q⟩ := q2
  cases r1
  obtain ⟨mA, O, _, _, _, _⟩ := ins_get I2.hok ea
  obtain ⟨od, J, _⟩ := O.look
  obtain ⟨mm, hF⟩ := I2.fr
  refine PySem.W.sub_K hF I2.ok.mod.kin J hs.1 hs.2.2 hs.2.1 ?_ (hsl p u)
  have hl := F.len _ _ _ _ q
  have r3 : Vals [V.ref p, y] [Value.ref p, u] := .cons rfl (.cons r2 .nil)
  refine wpAny_call (codeAny_mono (F.run X.A.in1 X.stack s2 H2 ⟨[.ref p, u], []⟩ [.ref p, u] [.ref p, y] _ _ hr.in1 I2.env0.in1 (by
    have := bd s2 [.ref p, u] I2.kIn (by simpa using hl)
    simpa using this) r3 q) fun r s' hq => ?_)
  match r, hq with
  | .error e, c => exact passAt tkW σ pins H2 s2 e s' I2 c
  | .ok (.ret w), c => exact I2.after c
  | .ok .next, c => exact c.elim
  | .ok .brk, c => exact c.elim
  | .ok .cont, c => exact c.elim
section
variable {K : PySem.W.Frag} {δ : List (Option D)} {m : Mem} {Q : D → Mem → Prop} {R : XS} {ta te tb : TE} {t tk : TA} {Pf : FX} {n l : Nat} {idx : List Nat} {dd : List D} {C : Addr} {nm : Str}
/-- what the caller takes of the callee's errors -/
theorem wx_of {F : Hp} {W : WX} {σ : L2.St} (kx : MeetsX K R F W) {m2 : Mem} {H2 : Hp} (s2 : Sub F (hide m2 H2)) (S : Sl K (hide m2 H2) σ δ) : ∀ (C : Addr) (x : D) (m' : Mem) (dd : Addr) (H' : Hp), R δ C x m' → Sub (hide m2 H2) (hide (m' ++ [(dd, xc x)]) H') → MemOk K (m' ++ [(dd, xc x)]) H' → WE W σ (.ref C) (some dd) H' :=
  fun C x m' dd H' q e M' => kx δ C x m' dd σ H' q (s2.trans e) (S.mono e) M'
theorem ewx_fun (h : AW K t δ m fun ds m2 => AW K tk δ m2 fun es m3 => ds.length = n ∧ es.length = l ∧ Pf (pickN idx (ds ++ (es ++ dd))) m3 Q (R δ)) : EWX K (tFunX K n l idx dd (spX K Pf) t tk) R δ m Q := fun σ H s M QQ k W kx =>
  h σ H s M _ fun ds m2 vs H2 q2 s2 M2 r2 => q2 σ H2 (s.mono s2) M2 _ fun es m3 zs H3 ⟨l1, l2, q3⟩ s3 M3 r3 =>
    ⟨by rw [r2.length, l1], by rw [r3.length, l2], fun dvs hd => ⟨_, m3, Q, R δ, pick_rd ((r2.mono s3).append (r3.append (hd _))) idx, M3, q3, fun d m' v H' q s4 M' r => k d m' v H' q (s2.trans (s3.trans s4)) M' r, wx_of kx (s2.trans s3) (s.mono (s2.trans s3))⟩⟩
theorem ewx_meth (h : EW K ta δ m fun x m1 => ∃ (fs : List (Str × D)), (x = .ins C fs ∨ ∃ p, x = .adr p ∧ MAt m1 p (.ins C fs)) ∧ fs.lookup nm = none ∧ AW K t δ m1 fun ds m2 => AW K tk δ m2 fun es m3 => ds.length = n ∧ es.length = l ∧ Pf (pickN idx (x :: (ds ++ (es ++ dd)))) m3 Q (R δ)) : EWX K (tMethX K C nm n l idx dd (spX K Pf) ta t tk) R δ m Q := fun σ H s M QQ k W kx =>
  h σ H s M _ fun x m1 v H1 ⟨fs, ex, lk, q⟩ s1 M1 r1 => by
    have at_ : ∃ a dx xs, v = .ref a ∧ H1 a = some (.ins C dx xs) ∧ xs.lookup nm = none := by
      rcases ex with ex | ⟨p, ex, hm⟩
      · have r1' := r1
        rw [ex] at r1'
        obtain ⟨a, dx, xs, ev, e, nms, r⟩ := ins_at r1'
        exact ⟨a, dx, xs, ev, e, (lookup_rel (f := nm) nms r).2 lk⟩
      · have r1' := r1
        rw [ex] at r1'
        cases r1'
        obtain ⟨i, hi⟩ := hm
        obtain ⟨dx, xs, e, nms, r⟩ := M1.get hi
        exact ⟨p, dx, xs, rfl, e, (lookup_rel (f := nm) nms r).2 lk⟩
    obtain ⟨a, dx, xs, ev, e, nl⟩ := at_
    subst ev
    refine ⟨a, dx, xs, rfl, e, nl, q σ H1 (s.mono s1) M1 _ fun ds m2 vs H2 q2 s2 M2 r2 => q2 σ H2 (s.mono (s1.trans s2)) M2 _ fun es m3 zs H3 ⟨l1, l2, q3⟩ s3 M3 r3 => ?_⟩
    exact ⟨by rw [r2.length, l1], by rw [r3.length, l2], fun dvs hd => ⟨_, m3, Q, R δ, pick_rd (.cons (r1.mono (s2.trans s3)) ((r2.mono s3).append (r3.append (hd _)))) idx, M3, q3, fun d m' v H' q s4 M' r => k d m' v H' q (s1.trans (s2.trans (s3.trans s4))) M' r, wx_of kx (s1.trans (s2.trans s3)) (s.mono (s1.trans (s2.trans s3)))⟩⟩
theorem ewx_make (h : AW K t δ m fun ds m2 => AW K tk δ m2 fun es m3 => ds.length = n ∧ es.length = l ∧ ∀ p, Pf (pickN idx (.adr p :: (ds ++ (es ++ dd)))) (m3 ++ [(p, .ins C [])]) (fun d m4 => d = .non ∧ ∃ (m5 : Mem) (fs : List (Str × D)), m4 = m5 ++ [(p, .ins C fs)] ∧ Q (.ins C fs) m5) (R δ)) : EWX K (tMakeX K C n l idx dd (spX K Pf) t tk) R δ m Q := fun σ H s M QQ k W kx =>
  h σ H s M _ fun ds m2 vs H0 q2 s2 M2 r2 => q2 σ H0 (s.mono s2) M2 _ fun es m1 zs H1 ⟨l1, l2, q1⟩ s3 M1 r3 => by
    refine ⟨by rw [r2.length, l1], by rw [r3.length, l2], fun dvs hd => ?_⟩
    intro x dx hx hdx hne
    have hx2 : upd H1 dx (.own x) x = none := by rw [upd_ne (Ne.symm hne)]; exact hx
    obtain ⟨M2', s2'⟩ := M1.new (o := .own x) hdx
    have e : hide (m1 ++ [(x, Cell.ins C [])]) (upd (upd H1 dx (.own x)) x (.ins C dx [])) = hide m1 (upd H1 dx (.own x)) := hide_cell hx2
    have M3 : MemOk K (m1 ++ [(x, Cell.ins C [])]) (upd (upd H1 dx (.own x)) x (.ins C dx [])) := M2'.cell (c := .ins C []) hx2 ⟨dx, [], upd_same, rfl, .nil⟩
    have s5 : DL.Sub (hide m1 H1) (hide (m1 ++ [(x, Cell.ins C [])]) (upd (upd H1 dx (.own x)) x (.ins C dx []))) := by rw [e]; exact s2'
    refine ⟨_, m1 ++ [(x, .ins C [])], _, R δ, pick_rd (.cons (.adr x) (((r2.mono s3).mono s5).append ((r3.mono s5).append (hd _)))) idx, M3, q1 x, fun d m' v H' ⟨ed, m4, fs, em, q⟩ s4 M4 r4 => ?_, wx_of kx (s2.trans (s3.trans s5)) (s.mono (s2.trans (s3.trans s5)))⟩
    subst ed
    subst em
    cases r4
    obtain ⟨M5, sb, hp⟩ := M4.drop
    exact ⟨rfl, k _ m4 _ H' q (s2.trans (s3.trans (s5.trans (s4.trans sb)))) M5 (still_of (d := .ins C fs) (M4.at_ x (.ins C fs) (by simp)) rfl sb hp)⟩
theorem ewx_sub (h : EW K ta δ m fun x m1 => EW K tb δ m1 fun y m2 => ∃ fs, x = .ins C fs ∧ Pf [x, y] m2 Q (R δ)) : EWX K (tSubX C (spX K Pf) ta tb) R δ m Q := fun σ H s M QQ k W kx =>
  h σ H s M _ fun x m1 v1 H1 q1 s1 M1 r1 => q1 σ H1 (s.mono s1) M1 _ fun y m2 v2 H2 ⟨fs, ex, q⟩ s2 M2 r2 => by
    have r1' := r1.mono s2
    have r3 := r1'
    rw [ex] at r3
    obtain ⟨p, dx, xs, ev, e, nm, r⟩ := ins_at r3
    subst ev
    exact ⟨p, dx, xs, rfl, e, [x, y], m2, Q, R δ, .cons r1' (.cons r2 .nil), M2, q, fun d m' v H' q s4 M' r => k d m' v H' q ((s1.trans s2).trans s4) M' r, wx_of kx (s1.trans s2) (s.mono (s1.trans s2))⟩
end
/-! ### errors of the program: __init__(self, value) -/
def spI (K : PySem.W.Frag) : Sp := fun vs H Q _ => ∃ (a C : Addr) (y : V), vs = [.ref a, y] ∧ OexC K C ∧ PySem.W.findIn K (.ref C) "value" = some none ∧ H a = some (exo a C none) ∧
  ∀ dx, H dx = none → dx ≠ a → Q .non (upd (upd H dx (exd dx [("value", y)])) a (exo a C (some dx)))
def InitX (P : Program) (w : World) (K : PySem.W.Frag) (mg : Str → Option Value) (base : Heap) (k : Nat) (f : Addr) : Prop := ∃ fd, FnOk P w K mg base (CX P w) k f fd ["self", "value"] (spI K) ∧ Binds K fd ["self", "value"] []
theorem initX {P : Program} {w : World} {K : PySem.W.Frag} {mg : Str → Option Value} {base : Heap} {k : Nat} {f : Addr} {x qual : Str} {st : Stmt} (h : Has K x qual st f ["self", "value"]) (S : FnScope ["self", "value"] ["self", "value"] (defScope st))
    (hd : ∀ (cdv : Value) (A : Around) (outer : List Env) (s : Shared) (H : Hp) (E : XK), PSs (cxOf (CX P w) P w K mg base ["self", "value"] qual (defScope st) f cdv A outer s H E) (defBody st) (tOst K "value" (tVar 0) (tVar 1))) : InitX P w K mg base (k + 1) f := by
  obtain ⟨fd, F, b⟩ := h
  obtain ⟨oc, od, dV, kV, dc, pm, an, cd, ct, sl, rfl, hcd, lk⟩ := F.is
  refine ⟨_, fn_of lk hcd S (fun vs H Q E ⟨a, C, y, e, _⟩ => by rw [e]; rfl) (fun A outer s H vs Q E hr h => ⟨_, hd _ A outer s H E, ?_⟩), b⟩
  obtain ⟨a, C, y, rfl, T, no, ea, q⟩ := h
  refine ⟨y, rfl, V.ref a, rfl, a, C, rfl, T, no, .inl ⟨ea, fun dx hx hne => q dx hx hne⟩⟩
/-- what a class of errors must be -/
structure ErrC (K : PySem.W.Frag) (C fI : Addr) : Prop where
  o : OexC K C
  i : PySem.W.findIn K (.ref C) "__init__" = some (some (.ref fI))
  v : PySem.W.findIn K (.ref C) "value" = some none
  t : PySem.W.typeIn K (.ref fI) = some (.type "function")
/-- raise C(e) -/
def tRs (K : PySem.W.Frag) (C : Addr) (ta : TA) (W : WX) : TS := fun _ σ H => tMkO C (spI K) [] ta σ H fun cls d H' => W cls d σ H'
theorem kx_raise {X : Cx} {k : Nat} {C fI : Addr} {x : Str} {e : Expr} {ta : TA} {W : WX} {p pos pos2 : Pos} (K : PySem.W.Frag) (hK : X.K = K) (hc : X.calm = true) (tk : Takes X W) (c : ErrC K C fI) (F : InitX X.prog X.w K X.mg X.base k fI) (hr : Room (k + 1) X.A) (hg : Gl X x) (hm : X.mg x = some (.ref C)) (ha : PA X [e] ta)
    (hdb : (x == ("__debug__" : Str)) = false := by decide) (he : starEach [e] X.env = [(false, eval e X.env)] := by rfl) (hpl : (backTo pos (starEach ([] : List Expr) X.env)).any (·.1) = false := by rfl) :
    PS X (.Raise (some (.Call (.Name x p) [e] [] pos)) none pos2) (tRs K C ta W) := by
  subst hK
  obtain ⟨fd, F, b⟩ := F
  exact ps_raise hc tk (pmk_oex (p := p) (dvs := []) (ds := []) c.o c.i c.t F hr b .nil (fun _ _ _ _ _ _ _ z => by obtain ⟨_, _, _, _, _, _, _, _, _, _, _, _, y⟩ := z; exact y.elim) hg hm ha hdb he hpl)
section
variable {K : PySem.W.Frag} {δ : List (Option D)} {m : Mem} {P : Ps} {R : XS} {ta : TA}
theorem swx_raise {C fI : Addr} (c : ErrC K C fI) (h : AW K ta δ m fun xs m1 => ∃ x, xs = [x] ∧ R δ C x m1) : SWX K (tRs K C ta) R δ m P := fun σ H s M E k W kx =>
  h σ H s M _ fun xs m1 vs H1 ⟨x, ex, q⟩ s1 M1 r1 => by
    subst ex
    cases r1 with
    | @cons v vs' _ _ r1 r2 =>
      cases r2
      refine ⟨by simp, fun a ha => ⟨a, C, v, rfl, c.o, c.v, upd_same, fun dx hx hne => ⟨rfl, dx, [("value", v)], upd_same, ?_, ?_, ?_⟩⟩⟩
      · rw [upd_ne hne, upd_same]
      · rwa [upd_ne hne] at hx
      · have hx1 : H1 dx = none := by rwa [upd_ne hne] at hx
        have eH : upd (del (upd (upd (upd H1 a (exo a C none)) dx (exd dx [("value", v)])) a (exo a C (some dx))) a) dx (.xd [("value", v)]) = upd H1 dx (.xd [("value", v)]) := by
          funext b
          by_cases hb : b = dx
          · rw [hb, upd_same, upd_same]
          · rw [upd_ne hb, upd_ne hb]
            by_cases ha2 : b = a
            · rw [ha2, del_same, ha]
            · rw [del_ne ha2, upd_ne ha2, upd_ne hb, upd_ne ha2]
        rw [eH]
        have e : hide (m1 ++ [(dx, xc x)]) (upd H1 dx (.xd [("value", v)])) = hide m1 H1 := hide_cell hx1
        exact kx δ C x m1 dx σ _ q (by rw [e]; exact s1) (by rw [e]; exact s.mono s1) (M1.cell (c := xc x) hx1 ⟨_, upd_same, rfl, .cons r1 .nil⟩)
end
/-! ### try: body, except X as n: suite -/
def tTryX (K : PySem.W.Frag) (c : Value) (i : Nat) (tb : WX → TS) (ts : Addr → Value → Option Addr → TS) (W : WX) : TS := fun D σ H => tb (wAs K c i ts W D) D σ H
section
variable {K : PySem.W.Frag} {δ : List (Option D)} {m : Mem} {P : Ps} {R : XS} {tb : WX → TS} {ts : Addr → Value → Option Addr → TS} {i : Nat} {c : Value}
/-- behind the suite: the error's name is gone, its dict is looked at no more -/
def Ps.gone (i : Nat) (dd : Addr) (P : Ps) : Ps where
  nx := fun δ' m' => ∃ c2 m2, m' = m2 ++ [(dd, c2)] ∧ P.nx (δ'.set i none) m2
  rt := fun d m' => ∃ c2 m2, m' = m2 ++ [(dd, c2)] ∧ P.rt d m2
theorem sw_try {W0 : WX} (h : SWX K tb (fun δ' C x m' => PySem.W.exmOne K (.ref C) c = some true ∧ ∀ a dd : Addr, SW K (ts a (.ref C) (some dd)) (δ'.set i (some (.adr a))) (m' ++ [(dd, xc x)]) (P.gone i dd)) δ m P) : SW K (tTryX K c i tb ts W0) δ m P := fun σ H s M E k =>
  h σ H s M E k _ fun δ' C x m' dd σ' H' ⟨e, q⟩ s1 S1 M1 => ⟨true, e, fun _ a ha => q a dd (σ'.set i (some (.ref a))) H' (S1.set i (.adr a)) M1 _ ⟨fun δ2 m2 σ2 H2 ⟨c2, m3, e2, q2⟩ s2 S2 M2 => by
      subst e2
      obtain ⟨M3, sb, _⟩ := M2.drop
      exact k.nx _ m3 _ H2 q2 (s1.trans (s2.trans sb)) ((S2.mono sb).unset i) M3, fun d m2 v H2 ⟨c2, m3, e2, q2⟩ s2 M2 r2 => by
      subst e2
      obtain ⟨M3, sb, _⟩ := M2.drop
      exact k.rt d m3 v H2 q2 (s1.trans (s2.trans sb)) M3 (r2.mono sb), fun _ _ _ _ z => z.elim, fun _ _ _ _ z => z.elim⟩, fun z => by cases z⟩
end
/-! ### the caught error: its value, isinstance -/
def tXv (K : PySem.W.Frag) (a : Addr) (cls : Value) (d : Option Addr) (f : Str) (te : TE) : TE := fun σ H Q => te σ H fun x H1 => x = .ref a ∧ ∃ (C dd : Addr) (fs : List (Str × V)) (v : V), cls = .ref C ∧ XfC K C ∧ PySem.W.findIn K (.ref C) f = some none ∧ d = some dd ∧ H1 dd = some (.xd fs) ∧ fs.lookup f = some v ∧ Q v H1
theorem kx_xv {X : Cx} {a : Addr} {oe : Obj} {cls : Value} {d : Option Addr} {pn : List (Addr × Obj)} {e : Expr} {te : TE} {pos : Pos} {f : Str} (K : PySem.W.Frag) (hK : X.K = K) (z : Zc cls d oe) (rec_ : ∃ vs, oe.data = .fields vs) (he : PE (X.suite a ((a, oe) :: pn)) e te)
    (hb : attributeBase e f X.env (eval e X.env) = eval e X.env := by rfl) : PE (X.suite a ((a, oe) :: pn)) (.Attribute e f pos) (tXv K a cls d f te) := by
  subst hK
  refine ⟨fun pins s σ H Q I h => attr_of hb (thn (he.run pins s σ H _ I h) fun u s1 got => ?_)⟩
  obtain ⟨x, H1, I1, rx, rfl, C, dd, fs, v, rfl, T, no, rfl, ed, lk, q⟩ := got
  cases rx
  obtain ⟨mA, names, rel⟩ := (show ObjOk X.prog X.w H1 s1.heap dd (.xd fs) from I1.hok dd _ ed)
  obtain ⟨od, hod, look⟩ := lookIn_ns names
  obtain ⟨w, ew, rw_⟩ := RelO.some_of (v := v) (o := mA f) (by rw [← lk]; exact rel f)
  obtain ⟨at_, _⟩ := I1.pin (a, oe) (List.mem_append_left _ List.mem_cons_self)
  obtain ⟨vs, dat⟩ := rec_
  have inst : PySem.W.InstAt s1.heap a oe C (some od) := ⟨at_, z.1, by unfold PySem.W.notCls; rw [dat] <;> rfl, by rw [z.2]; exact hod⟩
  exact HandSPX.exc_get I1.kIn inst T.ga T.gg T.exC (PySem.W.findObj_own T.hdC no rfl (by rw [look, ew])) (handed_of rw_) ⟨v, H1, I1.tok _, rw_, q⟩
section
variable {K : PySem.W.Frag} {δ : List (Option D)} {m : Mem} {Q : D → Mem → Prop} {te : TE}
theorem ew_xv {a C dd : Addr} (T : XfC K C) (no : PySem.W.findIn K (.ref C) "value" = some none) (h : EW K te δ m fun d m1 => d = .adr a ∧ ∃ x, MAt m1 dd (xc x) ∧ Q x m1) : EW K (tXv K a (.ref C) (some dd) "value" te) δ m Q := fun σ H s M QQ k =>
  h σ H s M _ fun d m1 v H1 ⟨ed, x, ⟨i, hm⟩, q⟩ s1 M1 r1 => by
    subst ed
    cases r1
    obtain ⟨vs, e, nm, r⟩ := M1.get hm
    match vs, nm, r with
    | [], nm, r => cases nm
    | (y, v) :: [], nm, .cons r1 .nil =>
      have ey : y = "value" := by injection nm
      subst ey
      exact ⟨rfl, C, dd, _, v, rfl, T, no, rfl, e, by simp [List.lookup], k x m1 v H1 q s1 M1 r1⟩
    | _ :: _ :: _, nm, r =>
      have := congrArg List.length nm
      simp at this
end
end DL

set_option Elab.async false
set_option linter.all false
set_option maxRecDepth 100000
set_option maxHeartbeats 4000000
set_option autoImplicit false
/-! isinstance of a caught error that has its dict. -/
namespace PySem.W
open PySem PySem.Spec PySem.Calls PyProof.Rows
section
variable {prog : Program} {w : World} {A : Around} {E : Value → Shared → Prop} {K : Frag} {x D : Addr} {ox od : Obj}
theorem errCls {hp : Heap} {g : Array GenState} {d : Drawn} {t : Nat} {os : OsState} {Q : Option Value → Shared → Prop} (c : L2.ExcC K D) (X : K.In hp) (I : InstAt hp x ox D (some od)) (h : Q (some (.ref D)) ⟨hp, g, d, t + 1, os⟩) :
    wpAny (model prog w) A (getAttr? (.ref x) "__class__") Q E ⟨hp, g, d, t, os⟩ := by
  have known : (clsIn K D).isSome = true := by
    obtain ⟨cd, e, _⟩ := any_some c.hd
    rw [e]
    rfl
  have found : findObj K D (some od) "__class__" = some (.bind (.builtin "getset_descriptor.__get__") (.builtin "object.__class__")) := findObj_data known c.ha c.hn c.ht
  have ty := I.type (M := model prog w)
  have getter := looks_findIn (M := model prog w) X c.hg
  have hook := looks_findIn (M := model prog w) X c.hk
  have place := looks_find (M := model prog w) X I found
  have isExc : Looks (model prog w) hp (isInstance (.ref x) (.type "BaseException")) true := ty.andThen (looks_subIn X c.hs)
  have notPlain : (onTheHeap (Value.ref D) && Value.builtin "BaseException.__getattribute__" == Value.builtin "object.__getattribute__") = false := by
    have ne : (Value.builtin "BaseException.__getattribute__" == Value.builtin "object.__getattribute__") = false := by decide +kernel
    rw [ne, Bool.and_false]
  unfold getAttr? getAttrBy? getAttrBy
  apply wpAny_bind
  apply wpAny_mkText
  apply wpAny_bind
  apply wpAny_attempt
  apply wpAny_holding
  refine wpAny_bind (ty.at (wpAny_bind (getter.at ?_)))
  show wpAny _ _ (if (onTheHeap (Value.ref D) && Value.builtin "BaseException.__getattribute__" == Value.builtin "object.__getattribute__") = true then _ else _) _ _ _
  rw [notPlain, if_neg Bool.false_ne_true]
  unfold getAttrByItsOwn hookBefore
  apply wpAny_bind
  rw [if_pos (show onTheHeap (Value.ref D) = true from rfl)]
  apply hook.at
  apply wpAny_bind
  apply wpAny_attempt
  apply wpAny_holding
  unfold callGetattribute
  rw [show (false && onTheHeap (Value.builtin "BaseException.__getattribute__")) = false from rfl, if_neg Bool.false_ne_true]
  unfold boundAndCalled
  rw [PySem.F.excAttr_ValueError.ga.bind (.ref x)]
  apply wpAny_bind
  apply wpAny_pure
  show wpAny _ _ (call (.builtin "BaseException.__getattribute__") [.ref x, .str "__class__" t]) _ _ _
  apply wpAny_call
  apply codeAny_call_builtin PySem.F.excAttr_ValueError.ga.plain PySem.F.entry_bexc_ga
  refine @check_slot (model prog w) _ _ ⟨hp, g, d, t + 1, os⟩ "BaseException.__getattribute__" "BaseException" "__getattribute__" (.ref x) [.str "__class__" t] [] _ (by decide +kernel) (by decide +kernel) isExc (PySem.F.args_bexc_ga (.ref x) (.str "__class__" t)) ?_
  unfold Builtin.«object.__getattribute__»
  apply wpAny_bind
  refine wpAny_of_eq (a := ((Value.ref x : Value), [Value.str "__class__" t])) (by first | rfl | (simp only [slotArgs]; rfl)) ?_
  apply wpAny_bind
  apply wpAny_pure
  refine wpAny_bind (ty.at (wpAny_bind (place.at ?_)))
  show wpAny _ _ (holding [Value.builtin "object.__class__"] (call (.builtin "getset_descriptor.__get__") [.builtin "object.__class__", .ref x, .ref D]) >>= ret) _ _ _
  apply wpAny_bind
  apply wpAny_holding
  apply wpAny_call
  refine class_get (s := ⟨hp, g, d, t + 1, os⟩) (ox := ox) (od := some od) X I c.hm ?_
  apply wpAny_pure
  show wpAny _ _ (handedOut (.ref D)) _ _ _
  rw [handedOut_of (v := .ref D) rfl]
  first
    | exact wpAny_pure (wpAny_pure h)
    | exact wpAny_pure h
    | exact wpAny_pure (wpAny_bind (wpAny_pure (wpAny_pure h)))
theorem errKit (c : L2.ExcC K D) : KitX K (.ref x) (.ref D) (fun h => InstAt h x ox D (some od)) where
  ty := fun _ _ _ I => I.type
  it := fun _ _ X _ => by
    obtain ⟨cd, e, _⟩ := any_some c.hd
    unfold clsIn at e
    split at e
    · rename_i ho
      intro A' Q' E' s' k q
      unfold isType loadHead
      exact wpAny_bind (wpAny_loadPart (k _ _ (X _ _ ho)) (wpAny_pure q))
    · cases e
  ne := fun h tp dd its n sl X htp => by
    obtain ⟨cd, e, _⟩ := any_some c.hd
    refine Bool.eq_false_iff.mpr fun q => ?_
    obtain rfl : D = tp := Value.ref.inj (beq_iff_eq.mp q)
    unfold clsIn at e
    split at e
    · rename_i ho
      cases (X _ _ ho).symm.trans htp
    · cases e
  ca := fun X I k => errCls c X I k
end
end PySem.W
namespace DL
open PySem PySem.Spec PyProof.Rows L2
/-- isinstance(e, C), e the caught error -/
def rIsX (K : PySem.W.Frag) (a : Addr) (cls : Value) (d : Option Addr) : List V → Hp → VK → Prop := fun xs H Q => ∃ (D C dd : Addr) (fs : List (Str × V)) (b : Bool), cls = .ref D ∧ d = some dd ∧ ExcC K D ∧ H dd = some (.xd fs) ∧ xs = [.ref a, .ref C] ∧ PySem.W.kitOne K (.ref D) (.ref C) = some b ∧ Q (.bl b) H
theorem kx_isX {X : Cx} {a : Addr} {oe : Obj} {cls : Value} {d : Option Addr} {pn : List (Addr × Obj)} (K : PySem.W.Frag) (hK : X.K = K) (z : Zc cls d oe) (rec_ : ∃ vs, oe.data = .fields vs) : CallR (X.suite a ((a, oe) :: pn)) (.builtin "isinstance") (rIsX K a cls d) := by
  subst hK
  intro pins s σ H xs us Q I r h
  obtain ⟨D, C, dd, fs, b, rfl, rfl, c, ed, rfl, e, q⟩ := h
  cases r with
  | cons r1 r =>
    cases r with
    | cons r2 r =>
      cases r
      cases r1
      cases r2
      obtain ⟨at_, _⟩ := I.pin (a, oe) (List.mem_append_left _ List.mem_cons_self)
      obtain ⟨vs, dat⟩ := rec_
      obtain ⟨mA, names, _⟩ := (show ObjOk X.prog X.w H s.heap dd (.xd fs) from I.hok dd _ ed)
      obtain ⟨od, hod, _⟩ := lookIn_ns names
      have inst : PySem.W.InstAt s.heap a oe D (some od) := ⟨at_, z.1, by unfold PySem.W.notCls; rw [dat] <;> rfl, by rw [z.2]; exact hod⟩
      exact PySem.W.kia_one (PySem.W.errKit c) I.kIn inst e (fun y => nomatch y) fun tk => ⟨.bl b, H, I.kept (t' := tk) fun _ _ y => y, rfl, q⟩
section
variable {K : PySem.W.Frag} {δ : List (Option D)} {m : Mem} {Q : D → Mem → Prop}
theorem cw_isX {a D C dd : Addr} {x : DL.D} {b : Bool} (c : ExcC K D) (hm : MAt m dd (xc x)) (e : PySem.W.kitOne K (.ref D) (.ref C) = some b) (q : Q (.bl b) m) : CW K (rIsX K a (.ref D) (some dd)) [.adr a, .adr C] m Q := fun H vs M r QQ k => by
  cases r with
  | cons r1 r =>
    cases r with
    | cons r2 r =>
      cases r
      cases r1
      cases r2
      obtain ⟨i, hi⟩ := hm
      obtain ⟨fs, ed, _, _⟩ := M.get hi
      exact ⟨D, C, dd, fs, b, rfl, rfl, c, ed, rfl, e, k _ m _ H q (Sub.refl _) M (.bl _)⟩
end
end DL
namespace DL
open PySem PySem.Spec PyProof.Rows L2
section
variable {K : PySem.W.Frag} {D C fI fJ : Addr} {b : Bool}
theorem ErrC.self (c : ErrC K C fI) (h : PySem.W.subIn K (.ref C) (.ref C) = some b) : b = true := by
  obtain ⟨nm, q, N, bs, bm, sn, sub, ab, col, dd, k0, k1, k2, k3, k5, hC, _⟩ := c.o.cls
  have e : PySem.W.clsIn K C = some { name := nm, bases := bs, mro := .ref C :: bm, ns := N, qualname := q, hasDict := true, slotNames := sn, subclasses := sub, abstract := ab, collection := col, hasDel := false } := by unfold PySem.W.clsIn; rw [hC] <;> rfl
  have h2 : PySem.W.mroIn K C (.ref C) = some b := h
  unfold PySem.W.mroIn at h2
  rw [e] at h2
  simpa using h2.symm
theorem ErrC.kit (c : ErrC K D fI) (d : ErrC K C fJ) (x : ExcC K C) (h : PySem.W.subIn K (.ref D) (.ref C) = some b) : PySem.W.kitOne K (.ref D) (.ref C) = some b := by
  unfold PySem.W.kitOne
  by_cases e : D = C
  · subst e
    rw [c.self h]
    simp
  · rw [if_neg (by simpa using e)]
    obtain ⟨cd, hc, _⟩ := PySem.W.any_some x.hd
    show (if ((PySem.W.clsIn K C).isSome && PySem.W.typeIn K (.ref C) == some (.type "type")) = true then PySem.W.subIn K (.ref D) (.ref C) else none) = some b
    rw [hc, d.o.tyC, if_pos (by rfl)]
    exact h
theorem ErrC.exm (d : ErrC K C fJ) (x : ExcC K C) (h : PySem.W.subIn K (.ref D) (.ref C) = some b) : PySem.W.exmOne K (.ref D) (.ref C) = some b := PySem.W.exm_ref d.o.exC x.hd d.o.tyC h
theorem takes_none {X : Cx} : Takes X fun _ _ _ _ => False := fun u s' ⟨_, _, _, _, _, _, _, _, _, _, _, _, _, _, _, _, z⟩ => z.elim
end
theorem kx_try {X : Cx} {x n : Str} {c : Value} {i : Nat} {body suite : List Stmt} {b₀ : Stmt} {np pos pos' : Pos} {tb : WX → TS} {ts : Addr → Value → Option Addr → TS} {W0 : WX} (K : PySem.W.Frag) (hK : X.K = K)
    (hs : X.stack = X.env :: X.outer) (hf : X.env.frame = some X.env.locals) (hN : X.N.Nodup) (hi : X.N[i]? = some n) (hln : X.env.kindOf n = some .local) (hc : Names X x c) (tk : Takes X W0)
    (hb : ∀ (W : WX) (pn : List (Addr × Obj)) (xe : Value → Shared → Prop), Takes (X.tr pn xe) W → PassesOwn (model X.prog X.w) X.A X.env xe → ∃ t', PSs (X.tr pn xe) body t' ∧ t' = tb W)
    (hsu : ∀ (a : Addr) (oe : Obj) (cls : Value) (d : Option Addr) (pn : List (Addr × Obj)), Zc cls d oe → (∃ vs, oe.data = .fields vs) → ∃ t', PSs (X.suite a ((a, oe) :: pn)) (b₀ :: suite) t' ∧ t' = ts a cls d) :
    PS X (.Try body [.ExceptHandler (some (.Name x np)) (some n) (b₀ :: suite) pos'] [] [] pos) (tTryX K c i tb ts W0) := by
  subst hK
  exact ps_try_as hs hf hN hi hln hc tk (fun W pn xe a b => by obtain ⟨t', p, e⟩ := hb W pn xe a b; rw [← e]; exact p) fun a oe cls d pn z r => by obtain ⟨t', p, e⟩ := hsu a oe cls d pn z r; rw [← e]; exact p
end DL

set_option Elab.async false
set_option linter.all false
set_option maxRecDepth 100000
set_option maxHeartbeats 1000000
set_option autoImplicit false
/-! repr of None; texts told backwards; a sum of lists as a cell; cells told in another sequence. -/
namespace DL
open PySem PySem.Spec PyProof.Rows L2
def rReprP : List V → Hp → VK → Prop := fun xs H Q => (xs = [.non] ∧ Q (.str "None") H) ∨ (∃ b : Bool, xs = [.bl b] ∧ Q (.str (if b then "True" else "False")) H) ∨ ∃ i : Int, xs = [.int i] ∧ i.natAbs.log2 < 1920 ∧ Q (.str (toString i)) H
def rReprU (K : PySem.W.Frag) : List V → Hp → VK → Prop := fun xs H Q => rRepr K xs H Q ∨ rReprP xs H Q
theorem kx_reprU {X : Cx} (K : PySem.W.Frag) (hK : X.K = K) (hg : X.A.guards = some []) (hu : X.A.units + 66 < cLine) : CallR X (.builtin "repr") (rReprU K) := by
  intro pins s σ H xs us Q I rv h
  rcases h with h | ⟨rfl, q⟩ | ⟨b, rfl, q⟩ | ⟨i, rfl, hi, q⟩
  · exact kx_repr K hK hg hu pins s σ H xs us Q I rv h
  · cases rv with
    | cons r0 r1 =>
      cases r1
      cases r0
      exact PySem.P.repr_of_none ⟨.str "None", H, I.tok _, ⟨_, rfl⟩, q⟩
  · cases rv with
    | cons r0 r1 =>
      cases r1
      cases r0
      exact PySem.P.repr_of_bool ⟨.str _, H, I.tok _, ⟨_, rfl⟩, q⟩
  · cases rv with
    | cons r0 r1 =>
      cases r1
      obtain ⟨t, rfl⟩ := r0
      exact PySem.P.repr_of_int hi ⟨.str _, H, I.tok _, ⟨_, rfl⟩, q⟩
section
variable {K : PySem.W.Frag} {δ : List (Option D)} {m m' : Mem} {Q : D → Mem → Prop} {te : TE} {t : TS} {P : Ps}
theorem cw_showU {x : D} {d : PyData} {n B : Nat} (h : Res K m x d) (hx : (∃ xs, x = .lst xs) ∨ (∃ xs, x = .tup xs) ∨ ∃ p, x = .adr p) (s : Shw n B d) (hn : n ≤ 64) (hB : B ≤ sizeLine) (q : Q (.str d.shown) m) : CW K (rReprU K) [x] m Q := cw_or1 (cw_show h hx s hn hB q)
theorem cw_showN (q : Q (.str "None") m) : CW K (rReprU K) [.non] m Q := cw_or2 fun H vs M a QQ k => by
  cases a with
  | cons a b =>
    cases b
    cases a
    exact .inl ⟨rfl, k _ m _ H q (Sub.refl _) M (.str _)⟩
theorem cw_showB {b : Bool} (q : Q (.str (if b then "True" else "False")) m) : CW K (rReprU K) [.bl b] m Q := cw_or2 fun H vs M a QQ k => by
  cases a with
  | cons a e =>
    cases e
    cases a
    exact .inr (.inl ⟨b, rfl, k _ m _ H q (Sub.refl _) M (.str _)⟩)
theorem cw_showI {i : Int} (h : i.natAbs.log2 < 1920) (q : Q (.str (toString i)) m) : CW K (rReprU K) [.int i] m Q := cw_or2 fun H vs M a QQ k => by
  cases a with
  | cons a e =>
    cases e
    cases a
    exact .inr (.inr ⟨i, rfl, h, k _ m _ H q (Sub.refl _) M (.str _)⟩)
theorem ow_addLM {xs ys : List D} (h : xs.length + ys.length ≤ sizeLine) (q : ∀ z, Q (.adr z) (m ++ [(z, .lst (xs ++ ys))])) : OW K rAddU (.lst xs) (.lst ys) m Q := fun H v w M a b QQ k => by
  obtain ⟨p, vs, rfl, e1, r1⟩ := lst_at a
  obtain ⟨p', ws, rfl, e2, r2⟩ := lst_at b
  refine .inr (.inr ⟨p, p', vs, ws, rfl, rfl, e1, e2, by rw [r1.length, r2.length]; exact h, fun z hz => ?_⟩)
  obtain ⟨M2, s2⟩ := new_lstM M (r1.append r2) hz
  exact k _ _ _ _ (q z) s2 M2 (.adr z)
/-- the cells told in another sequence, ahead -/
theorem ew_ahead (h : m.Perm m') (q : EW K te δ m' Q) : EW K te δ m Q := fun σ H s M QQ k => by
  have e : hide m H = hide m' H := hide_perm h
  exact q σ H (by rw [← e]; exact s) (M.perm h) QQ fun d m2 v H2 a b => k d m2 v H2 a (by rw [e]; exact b)
theorem MAt.front {p : Addr} {c : Cell} (h : MAt m p c) : ∃ G, m.Perm ((p, c) :: G) := by
  obtain ⟨i, hi⟩ := h
  obtain ⟨l, e⟩ := List.getElem?_eq_some_iff.mp hi
  refine ⟨m.eraseIdx i, ?_⟩
  conv => lhs; rw [← List.take_append_drop i m, List.drop_eq_getElem_cons l, e]
  rw [List.eraseIdx_eq_take_drop_succ]
  exact List.perm_middle
end
/-! ### z[::-1] of a text -/
def revS (z : Str) : Str := Txt.sliceBy z none none (-1, 0)
theorem revS_len (z : Str) : (revS z).length = z.length := step_rev_len z 0
theorem revS_mem {z : Str} {c : Nat} (h : c ∈ (revS z).cps.toList) : c ∈ z.cps.toList := by
  unfold revS at h
  rw [step_rev_list] at h
  obtain ⟨k, hk, rfl⟩ := List.mem_map.mp h
  have hk := List.mem_range.mp hk
  have hl : z.length - 1 - k < z.cps.size := by show _ < z.length; omega
  rw [Array.getD_eq_getD_getElem?, Array.getElem?_eq_getElem hl]
  exact Array.getElem_mem_toList hl
def tRevS (te : TE) : TE := fun σ H Q => te σ H fun x H1 => ∃ z, x = .str z ∧ z.length ≤ sizeLine ∧ Q (.str (revS z)) H1
theorem kx_revS {X : Cx} {e : Expr} {te : TE} {k : Nat} {p1 p2 p3 pos : Pos} (he : PE X e te) : PE X (.Subscript e (.Slice none none (some (.UnaryOp .USub (.Constant (.int 1) k p1) p2)) p3) pos) (tRevS te) := by
  refine ⟨fun pins s σ H Q I h => ?_⟩
  refine Subscript_ (thn (he.run pins s σ H _ I h) fun v s1 ⟨x, H1, I1, r1, z, ex, hz, q⟩ => ?_)
  subst ex
  obtain ⟨t, rfl⟩ := r1
  have step : PO X (some (.UnaryOp .USub (.Constant (.int 1) k p1) p2)) (tPart (tUn (rU fun i => .int (-i)) (tC (.int 1)))) := po_some (pe_un un_neg pe_int)
  refine wpAny_Slice (thn (po_none.run pins s1 σ H1 (fun o H2 => o = none ∧ H2 = H1) I1 ⟨rfl, rfl⟩) fun vl s2 got => ?_)
  obtain ⟨l, H2, I2, pl, rfl, rfl⟩ := got
  refine thn (po_none.run pins s2 σ H2 (fun o H3 => o = none ∧ H3 = H2) I2 ⟨rfl, rfl⟩) fun vu s3 got => ?_
  obtain ⟨u, H3, I3, pu, rfl, rfl⟩ := got
  refine thn (step.run pins s3 σ H3 (fun o H4 => o = some (-1) ∧ H4 = H3) I3 ⟨1, rfl, -1, rfl, rfl, rfl⟩) fun vs s4 got => ?_
  obtain ⟨o, H4, I4, ps, rfl, rfl⟩ := got
  have I5 : Inv X pins σ H4 { s4 with heap := s4.heap.push { cls := .type "slice", data := .fields #[vl, vu, vs] } } := I4.kept (t' := s4.toks) fun b ob y => Heap.get?_push_of_some _ y
  cases pl
  cases pu
  cases ps with
  | int _ tk =>
    have sl : ({ s4 with heap := s4.heap.push { cls := .type "slice", data := .fields #[.none, .none, .int (-1) tk] } } : Shared).heap.IsSlice s4.heap.objs.size none none (some (-1, tk)) := ⟨_, Heap.get?_push_size _ rfl, rfl, rfl⟩
    show wpAny (model X.prog X.w) X.A (subscriptTail e (.Slice none none (some (.UnaryOp .USub (.Constant (.int 1) k p1) p2)) p3) (.str z t) (.ref s4.heap.objs.size)) (EP X pins σ Q) X.xe { s4 with heap := s4.heap.push { cls := .type "slice", data := .fields #[.none, .none, .int (-1) tk] } }
    refine tail_any (ops := [.ref s4.heap.objs.size, .str z t]) (typeIs_str _ _ _) F.slot_str_getitem.lookup (wpAny_getItem_str_slice (l := none) (u := none) (st := some (-1, tk)) sl rfl ?_) (by with_unfolding_all rfl)
    have eq : Txt.sliceBy z none none (-1, tk) = ⟨((slicePicked z none none (some (-1, tk))).filterMap (z.cps[·]?)).toArray⟩ := by
      unfold Txt.sliceBy
      rw [if_neg (by simp)]
    have q2 : Q (.str ⟨((slicePicked z none none (some (-1, tk))).filterMap (z.cps[·]?)).toArray⟩) H4 := by rw [← eq]; exact q
    have l2 : (⟨((slicePicked z none none (some (-1, tk))).filterMap (z.cps[·]?)).toArray⟩ : Str).length ≤ sizeLine := by rw [← eq, step_rev_len]; exact hz
    unfold sliceMade
    rw [if_neg (by simp)]
    exact ⟨l2, .str _, H4, I5.tok _, ⟨_, rfl⟩, q2⟩
end DL

set_option Elab.async false
set_option linter.all false
set_option maxRecDepth 100000
set_option maxHeartbeats 1000000
set_option autoImplicit false
/-! From the data promise of a law to its row, where repr is asked of no guard. -/
namespace DL
open PySem PySem.Spec PyProof.Rows L2
section
variable {K : PySem.W.Frag} {x qual : Str} {st : Stmt} {f T : Addr} {ps : List Str} {oc kV dc pm cd ct oT : Value} {od an dT : Option Addr} {sl sT : Array (Option Value)} {its : Array Value} {nT : Nat}
theorem has_mk (l : K.lookup f = some ⟨oc, od, .func (PySem.W.fnOf x qual (defArgs st) (defBody st) (defScope st) .none kV dc pm an cd ct), sl⟩) (c : PySem.W.codeIn K cd qual = true)
    (b : ∀ (kV dc pm : Value) (an : Option Addr) (cd ct : Value) (us : List Value), us.length = ps.length → bindArgs (PySem.W.fnOf x qual (defArgs st) (defBody st) (defScope st) .none kV dc pm an cd ct) ⟨us, []⟩ = pure (ps.zip us)) : Has K x qual st f ps :=
  ⟨_, ⟨oc, od, .none, kV, dc, pm, an, cd, ct, sl, rfl, c, l⟩, .all (b kV dc pm an cd ct)⟩
theorem has_mkD (l : K.lookup f = some ⟨oc, od, .func (PySem.W.fnOf x qual (defArgs st) (defBody st) (defScope st) (.ref T) kV dc pm an cd ct), sl⟩) (c : PySem.W.codeIn K cd qual = true) (lT : K.lookup T = some ⟨oT, dT, .seq its nT, sT⟩)
    (b : ∀ (kV dc pm : Value) (an : Option Addr) (cd ct : Value) (us : List Value), us.length = ps.length → ∃ k, bindArgs (PySem.W.fnOf x qual (defArgs st) (defBody st) (defScope st) (.ref T) kV dc pm an cd ct) ⟨us, []⟩ = seqItems? (.ref T) >>= k ∧ k (some its) = pure (ps.zip us)) : Has K x qual st f ps := by
  refine ⟨_, ⟨oc, od, .ref T, kV, dc, pm, an, cd, ct, sl, rfl, c, l⟩, fun s us kin hl => ?_⟩
  rw [List.append_nil] at hl ⊢
  obtain ⟨k, e1, e2⟩ := b kV dc pm an cd ct us hl
  refine BindsTo.of_looks fun M => ?_
  rw [e1]
  exact looks_items kin lT rfl (.of_pure e2)
theorem kb_mk (l : K.lookup f = some ⟨oc, od, .func (PySem.W.fnOf x qual (defArgs st) (defBody st) (defScope st) .none kV dc pm an cd ct), sl⟩)
    (b : ∀ (kV dc pm : Value) (an : Option Addr) (cd ct : Value) (us : List Value), us.length = ps.length → bindArgs (PySem.W.fnOf x qual (defArgs st) (defBody st) (defScope st) .none kV dc pm an cd ct) ⟨[], ps.zip us⟩ = pure (ps.zip us)) : KB0 K f ps := fun fd e ws hl => by
  rw [← fdAt_inj ⟨oc, od, sl, l⟩ e]
  exact b kV dc pm an cd ct ws hl
theorem law_mk {y : Str} (l : K.lookup f = some ⟨oc, od, .func (PySem.W.fnOf x qual (defArgs st) (defBody st) (defScope st) .none kV dc pm an cd ct), sl⟩)
    (b : ∀ v : Value, bindArgs (PySem.W.fnOf x qual (defArgs st) (defBody st) (defScope st) .none kV dc pm an cd ct) ⟨[v], []⟩ = pure [(y, v)]) : ∀ fd, FdAt K f fd → ∀ (s : Shared) (v : Value), BindsTo s fd ⟨[v], []⟩ [(y, v)] := fun fd e s v => by
  rw [← fdAt_inj ⟨oc, od, sl, l⟩ e]
  exact .of_eq (b v)
end
def startHp (K : PySem.W.Frag) (a : Addr) (vs : List Value) (ns : List Int) : Hp := fun b => match K.lookup a with
  | some _ => none
  | none => if b = a then some (.frz { cls := .type "list", data := .seq vs.toArray } (.lst (ns.map V.int))) else none
section
variable {K : PySem.W.Frag} {a : Addr} {vs : List Value} {ns : List Int}
theorem startHp_some {b : Addr} {u : HO} (h : startHp K a vs ns b = some u) : K.lookup a = none ∧ b = a ∧ u = .frz { cls := .type "list", data := .seq vs.toArray } (.lst (ns.map V.int)) := by
  unfold startHp at h
  cases c : K.lookup a with
  | some o => rw [c] at h; cases h
  | none =>
    rw [c] at h
    by_cases e : b = a
    · rw [if_pos e] at h
      cases h
      exact ⟨rfl, e, rfl⟩
    · rw [if_neg e] at h
      cases h
theorem startHp_none {b : Addr} (h : b ≠ a) : startHp K a vs ns b = none := by
  cases c : startHp K a vs ns b with
  | none => rfl
  | some u => exact absurd (startHp_some c).2.1 h
theorem startHp_sq {h : Heap} (kin : K.In h) (obj : h.get? a = some { cls := .type "list", data := .seq vs.toArray }) (are : IntsAre vs ns) (few : ns.length ≤ sizeLine) : SqL K (startHp K a vs ns) a (ns.map V.int) := by
  have n2 := are.length
  have rel := vals_ints are
  cases c : K.lookup a with
  | some o =>
    have e := kin a o c
    rw [obj] at e
    cases e
    refine Or.inr ⟨_, vs.toArray, _, c, rfl, rfl, rfl, ?_, ?_⟩
    · rw [List.size_toArray, n2]; exact few
    · simpa using rel
  | none =>
    refine Or.inl (Or.inr ⟨{ cls := .type "list", data := .seq vs.toArray }, ?_⟩)
    unfold startHp
    rw [c]
    exact if_pos rfl
theorem code_of {P : Program} {w : World} {mg mb : Str → Option Value} {k : Nat} {fa : Addr} {fd : FuncData} {x : Str} {Pf : FS} {s : Shared}
    (kin : K.In s.heap) (top : s.heap.Ns mainGlobals mg) (blt : s.heap.Ns builtinsNs mb) (boot : ∀ x : Str, x ≠ "__name__" → mb x = bootBuiltins x) (free : s.heap.NoLimit) (calm : s.gens = #[])
    (obj : s.heap.get? a = some { cls := .type "list", data := .seq vs.toArray }) (are : IntsAre vs ns) (few : ns.length ≤ sizeLine) (room : Room k callerA)
    (F : ∀ base : Heap, K.In base → base.Ns mainGlobals mg → FnG P w K mg base k fa fd [x] (spOf K Pf)) (bind : ∀ (s : Shared) (u : Value), BindsTo s fd ⟨[u], []⟩ [(x, u)])
    (keeps : Pf [.scr ns] [] fun d _ => d = .bl true) :
    codeAny (model P w) callerA (.call (.ref fa) ⟨[.ref a], []⟩) (fun r s' => r = .ok (.ret (.bool true)) ∧ OldK s.heap s'.heap ∧ s'.os = s.os ∧ AllBare s'.gens) s := by
  have sq := startHp_sq kin obj are few
  have rel := vals_ints are
  generalize hG : startHp K a vs ns = G at sq
  have tracked : ∀ {b : Addr} {u : HO}, G b = some u → K.lookup a = none ∧ b = a ∧ u = .frz { cls := .type "list", data := .seq vs.toArray } (.lst (ns.map V.int)) := fun {b u} q => startHp_some (hG ▸ q)
  have hok : HOk P w G s.heap := fun b u q => by
    obtain ⟨_, rfl, rfl⟩ := tracked q
    refine ⟨obj, ?_, vs, _, rel, obj⟩
    rw [List.length_map]
    exact few
  have still : ∀ {b : Addr} {o : Obj} {es : Array DictEntry} {ep : Nat}, s.heap.get? b = some o → o.data = .dict es ep → G b = none := fun {b o es ep} e d => by
    cases c : G b with
    | none => rfl
    | some u =>
      obtain ⟨_, rfl, _⟩ := tracked c
      rw [obj] at e
      cases e
      exact absurd d (fun z => by cases z)
  have names : ∀ {b : Addr} {mm : Str → Option Value}, s.heap.Ns b mm → (hidT s.heap G).Ns b mm := fun {b mm} h => by
    obtain ⟨o, es, ep, e, d, r⟩ := h
    exact ⟨o, es, ep, hidT_get e (still e d), d, r⟩
  have kin2 : K.In (hidT s.heap G) := fun b o e => by
    refine hidT_get (kin b o e) ?_
    cases c : G b with
    | none => rfl
    | some u =>
      obtain ⟨n, rfl, _⟩ := tracked c
      rw [n] at e
      cases e
  obtain ⟨mc, l1, l2⟩ := free
  have modl : Mod K mg (hidT s.heap G) := ⟨kin2, names top, ⟨mb, names blt, boot⟩, mc, names l1, l2⟩
  have env : Env0 P w K mg (hidT s.heap G) callerA [] s G := ⟨rfl, modl, fun b o e => of_hidT e, Nat.le_of_eq (hidT_size _ _), trivial, fun b hb => (List.not_mem_nil hb).elim, hok, .of_eq calm⟩
  have M0 : MemOk K ([] : Mem) G := ⟨List.nodup_nil, fun p c hc => (List.not_mem_nil hc).elim⟩
  have e0 : hide ([] : Mem) G = G := by
    funext b
    exact hide_out (by simp)
  have wish : spOf K Pf [.ref a] G (fun v _ => v = .bl true) E0 := by
    refine ⟨[.scr ns], [], fun d _ => d = .bl true, ?_, M0, keeps, fun d m' v H' q _ _ r => ?_⟩
    · rw [e0]
      exact .cons (.scr sq) .nil
    · subst q
      cases r
      rfl
  have run := (F _ kin2 (names top)).go callerA [] s G ⟨[.ref a], []⟩ [.ref a] [.ref a] (fun v _ => v = .bl true) rfl room env (bind s (.ref a)) (.cons rfl .nil) wish
  refine codeAny_mono run fun r s' h => ?_
  match r, h with
  | .error e, h => exact False.elim h
  | .ok .next, h => exact False.elim h
  | .ok .brk, h => exact False.elim h
  | .ok .cont, h => exact False.elim h
  | .ok (.ret u), ⟨v, H', os, bare, un, hok', ru, qv⟩ =>
    have qv' : v = .bl true := qv
    subst qv'
    have ru' : u = Value.bool true := ru
    subst ru'
    refine ⟨rfl, OldK.of_keep fun b o e => ?_, os, bare⟩
    cases c : G b with
    | none => exact un.keep b o e c (fun z => (List.not_mem_nil (show b ∈ ([] : List Addr) from z)).elim) (List.not_mem_nil)
    | some u =>
      obtain ⟨_, rfl, rfl⟩ := tracked c
      have z := un.frzs b _ _ c
      have e2 := (hok' b _ z).1
      rw [obj] at e
      cases e
      exact e2
end
theorem walk_at_law {l : PySem.W.OpenLaw} {n k : Nat} {q : Program} {loose : List Str} {XP : (Str → Option Value) → Heap → Prop} {YP : World → Heap → Prop} {d : DefRec} {K : Params → PySem.W.Frag} {Pf : FS} {x : Str}
    (most : l.most = some n) (small : n ≤ sizeLine) (nodef : d.params.defaults = []) (room : Room k callerA) (written : ∀ (w : World) (h : Heap), YP w h → (K w.params).In h)
    (F : ∀ (w : World) (mg : Str → Option Value) (fa : Addr) (h : Heap), (K w.params).In h → h.Ns mainGlobals mg → mg d.name = some (.ref fa) →
      ∃ fd : FuncData, (∀ (s : Shared) (u : Value), BindsTo s fd ⟨[u], []⟩ [(x, u)]) ∧ ∀ base : Heap, (K w.params).In base → base.Ns mainGlobals mg → FnG l.prog w (K w.params) mg base k fa fd [x] (spOf (K w.params) Pf))
    (keeps : ∀ ns : List Int, ns.length ≤ n → (∀ z ∈ ns, Builtin.Int.intBits z ≤ 1048576) → Pf [.scr ns] [] fun d _ => d = .bl true) : PySem.W.WalkO q loose XP YP l.row.toRowW d [] (fun f vs => PySem.call f vs) := by
  apply Att.attach_callB most nodef
  intro w s0 s mg mb fa o pm cd doc a vs ns ground y _ _ _ named obj are few bits calm
  obtain ⟨fd, bind, promise⟩ := F w mg fa s.heap (written w _ y) ground.T.g named
  exact code_of (written w _ y) ground.T.g ground.T.b ground.T.builtins ground.T.nolimit calm obj are (Nat.le_trans few small) room promise bind (keeps ns few bits)
end DL

set_option Elab.async false
set_option linter.all false
set_option maxRecDepth 100000
set_option maxHeartbeats 1000000
set_option autoImplicit false
/-! sorted(xs, key = lambda x: ..): xs a list of ints, the key an int that is told without a trace. -/
namespace DL
open PySem PySem.Spec PyProof.Rows L2 LamX SrtO

/-! ### the lambda: one parameter, captured names -/
structure LamP (sc scope : Scope) (N : List Str) (j : Nat) (x : Str) : Prop where
  kind : scope.kind = .function
  co : scope.isCoroutine = false
  gen : scope.isGenerator = false
  nm : N[j]? = some x
  lo : scope.names.lookup x = some .local
  own : ∀ y ∈ scope.names, y.2 ≠ .cell ∧ (y.2 = .local → y.1 = x)
  free : ∀ y ∈ scope.names, y.2 = .free → sc.names.lookup y.1 = some .cell ∨ sc.names.lookup y.1 = some .free
  nd : N.Nodup
def lamPB (sc scope : Scope) (x : Str) : Bool :=
  decide (scope.kind = .function) && !scope.isCoroutine && !scope.isGenerator && decide (scope.names.lookup x = some .local) && scope.names.all fun y => !decide (y.2 = .cell) && (!decide (y.2 = .local) || decide (y.1 = x)) && (!decide (y.2 = .free) || decide (sc.names.lookup y.1 = some .cell) || decide (sc.names.lookup y.1 = some .free))
theorem lamP_by {sc scope : Scope} {N : List Str} {j : Nat} {x : Str} (nd : N.Nodup) (nm : N[j]? = some x) (h : lamPB sc scope x = true) : LamP sc scope N j x := by
  unfold lamPB at h
  simp only [Bool.and_eq_true, Bool.or_eq_true, Bool.not_eq_true', decide_eq_true_eq, decide_eq_false_iff_not, List.all_eq_true] at h
  obtain ⟨⟨⟨⟨h1, h2⟩, h3⟩, h5⟩, h4⟩ := h
  refine ⟨h1, h2, h3, nm, h5, fun y hy => ⟨(h4 y hy).1.1, fun e => ?_⟩, fun y hy e => ?_, nd⟩
  · rcases (h4 y hy).1.2 with z | z
    · exact absurd e z
    · exact z
  · rcases (h4 y hy).2 with (z | z) | z
    · exact absurd e z
    · exact .inl z
    · exact .inr z
section
variable {X : Cx} {pins : List (Addr × Obj)} {σ : L2.St} {H : Hp} {s : Shared} {scope : Scope} {j : Nat} {x : Str}
theorem LamP.has (L : LamP X.env.scope scope X.N j x) (ok : X.Ok) : ∀ y ∈ scope.names, y.2 = .free → ∃ c, X.env.cells.lookup y.1 = some c := fun y hy e => by
  rcases L.free y hy e with k | k
  · exact ok.has _ (.inl k)
  · exact ok.has _ (.inr k)
theorem lam_startP {A : Around} {E : XK} {f c' : Addr} {h₁ : Heap} {tk : Nat} {v : V} {u : Value}
    (I : Inv X pins σ H s) (L : LamP X.env.scope scope X.N j x) (hf : A.frames = some X.stack) (hd : A.handled = none)
    (hns : h₁.Ns s.heap.objs.size fun y => [(x, u)].reverse.lookup y) (kp : ∀ b o, s.heap.get? b = some o → h₁.get? b = some o) (rv : RelV v u) :
    Inv (lamCx X A X.stack s H E scope f c') [] (σ.set j (some v)) H { s with heap := h₁, toks := tk } := by
  have e0 := I.env0
  have hfree := L.has I.ok
  have cm : ∀ {y c}, (cloFrom X.env.cells scope.names []).lookup y = some c → X.env.cells.lookup y = some c := fun {y c} e => by
    rcases cloFrom_mem (PySem.mem_of_lookup e) with hm | ⟨h1, h2⟩
    · cases hm
    · obtain ⟨c1, hc⟩ := hfree _ h1 rfl
      have hc : X.env.cells.lookup y = some c1 := hc
      have e2 : c = c1 := by
        rw [h2, hc] <;> rfl
      rw [e2]
      exact hc
  have look : ∀ {y}, scope.names.lookup y = some .free → ∃ c, (cloFrom X.env.cells scope.names []).lookup y = some c := fun {y} hl => by
    have hy : (y, NameKind.free) ∈ scope.names := PySem.mem_of_lookup hl
    exact mem_lookup (cloFrom_has (cells := X.env.cells) (acc := []) hy)
  have cellK : ∀ {c : Addr} {v : Option Value}, s.heap.IsCell c v → h₁.IsCell c v := fun {c v} ⟨o, ho, hd⟩ => ⟨o, kp _ _ ho, hd⟩
  have noA : ∀ b : Addr, b ∉ (lamCx X A X.stack s H E scope f c').ex := fun b z => absurd (show b ∈ ([] : List Addr) from z) (by simp)
  refine ⟨⟨e0.mod, L.kind, rfl, rfl, Nat.le_refl _, fun y z c e1 e2 => I.ok.inj y z c (cm e1) (cm e2), fun y hy => ?_, fun y c z _ => ?_, fun _ => hd, Around.frames_deeper hf, .inr ⟨rfl, rfl⟩, fun b z => absurd z (noA b), e0.bs, e0.bsz, fun b _ _ => noA b,
      fun b z => absurd z (noA b), e0.funs, e0.frf⟩,
    rfl, e0.bare, Un.kept kp, ⟨_, hns, fun i y v' e1 e2 e3 => ?_⟩, fun y c e => ?_, e0.hok.fresh (Nat.le_refl _), fun y c e => I.freeC y c (cm e), fun q hq => absurd (show q ∈ ([] : List (Addr × Obj)) ++ [] from hq) (by simp), e0.hok.kept kp, ?_⟩
  · have hy : scope.names.lookup y = some .cell ∨ scope.names.lookup y = some .free := hy
    rcases hy with hy | hy
    · exact absurd rfl (L.own _ (PySem.mem_of_lookup hy)).1
    · exact look hy
  · have z : false = true := z
    cases z
  · have e1 : X.N[i]? = some y := e1
    have e3 : Vis scope y := e3
    by_cases hij : j = i
    · subst hij
      have ey : y = x := by
        have q := L.nm
        rw [e1] at q
        exact Option.some.inj q
      subst ey
      have hv : v' = v := by
        rw [List.getElem?_set] at e2
        rw [if_pos rfl] at e2
        split at e2
        · exact (Option.some.inj (Option.some.inj e2)).symm
        · cases e2
      subst hv
      exact ⟨u, rv, .inl ⟨L.lo, by simp [List.lookup]⟩⟩
    · rw [List.getElem?_set, if_neg hij] at e2
      have hne : y ≠ x := fun e => by
        subst e
        exact hij (nodup_ix L.nd L.nm e1)
      rcases e3 with k | k | k
      · exact absurd ((L.own _ (PySem.mem_of_lookup k)).2 rfl) hne
      · exact absurd rfl (L.own _ (PySem.mem_of_lookup k)).1
      · obtain ⟨m, hn, hl⟩ := I.loc
        have hvis : Vis X.env.scope y := (L.free _ (PySem.mem_of_lookup k) rfl).elim (fun k => .inr (.inl k)) (fun k => .inr (.inr k))
        obtain ⟨w', r, q⟩ := hl i y v' e1 e2 hvis
        obtain ⟨c2, h2⟩ := look k
        refine ⟨w', r, .inr ⟨.inr k, c2, h2, ?_⟩⟩
        have c1 := cm h2
        rcases q with ⟨k', _⟩ | ⟨_, c3, e', z⟩
        · have k' : X.env.scope.names.lookup y = some .local := k'
          rcases L.free _ (PySem.mem_of_lookup k) rfl with k2 | k2 <;> rw [show X.env.scope.names.lookup y = _ from k2] at k' <;> cases k'
        · rw [c1] at e'
          cases e'
          exact cellK z
  · obtain ⟨w', z⟩ := I.cell y c (cm e)
    exact ⟨w', cellK z⟩
  · show (σ.set j (some v)).length = X.N.length
    rw [List.length_set]
    exact I.len
/-- the lambda is called -/
theorem lam_call {A : Around} {f c' : Addr} {params : Arguments} {body : Expr} {pm ctv : Value} {k : Nat} {v : V} {u : Value} {Q : VK} {tb : TE}
    (I : Inv X pins σ H s) (L : LamP X.env.scope scope X.N j x) (hf : A.frames = some X.stack) (hr : Room (k + 1) A)
    (ho : s.heap.get? f = some (PySem.W.kla_obj "<lambda>" (X.env.qual ++ "<lambda>") params body scope (cloFrom X.env.cells scope.names []) pm c' ctv)) (hc : H c' = some (CodeO c' (X.env.qual ++ "<lambda>")))
    (hbind : bindArgs (PySem.W.kla_fn "<lambda>" (X.env.qual ++ "<lambda>") params body scope (cloFrom X.env.cells scope.names []) pm (.ref c') ctv) ⟨[u], []⟩ = pure [(x, u)]) (rv : RelV v u)
    (hbody : Room k (A.deeper (lamEnv X scope s.heap.objs.size f c')) → PE (lamCx X A X.stack s H (fun _ _ _ => False) scope f c') body tb) (ht : tb (σ.set j (some v)) H Q) :
    codeAny (model X.prog X.w) A (.call (.ref f) ⟨[u], []⟩) (CR (L2.CX X.prog X.w) X.stack X.prog X.w H s Q fun _ _ _ => False) s := by
  obtain ⟨⟨oc, vs, t, hoc, hdc, hvc⟩, _, _⟩ := I.hok c' _ hc
  refine PySem.W.kla_callFunE hr.depth ho rfl L.co L.gen rfl ⟨c', oc, vs, t, rfl, hoc, hdc, hvc⟩ ?_
  rw [hbind]
  refine wpAny_pure (wpAny_newFunctionEnv (fun y hy => (L.own y hy).1) (fun y hy => ?_) (fun h₁ hns hsb => ⟨I.nolimit.fresh _ hsb, ?_⟩) L.kind)
  · rw [List.mem_singleton.mp hy]
    exact L.lo
  show codeAny _ _ (.expr body (lamEnv X scope s.heap.objs.size f c')) _ _
  have kp : ∀ b o, s.heap.get? b = some o → h₁.get? b = some o := fun b o e => hsb.extBut b o (Nat.ne_of_lt (Heap.lt_size e)) (Heap.get?_push_of_some _ e)
  have J : Inv (lamCx X A X.stack s H (fun _ _ _ => False) scope f c') [] (σ.set j (some v)) H { s with heap := h₁, toks := s.toks + ([(x, u)] : List (Str × Value)).length } :=
    lam_startP I L hf hr.hd hns kp rv
  refine PySem.W.kla_codeExpr (wpAny_mono ((hbody (hr.deeper _)).run [] _ _ H Q J ht) (fun v s' hq => ?_) fun e s' hq => hq)
  obtain ⟨w', H', J', rv, q⟩ := hq
  exact ⟨w', H', J'.os, J'.bare, J'.base, J'.hok, rv, q⟩
end

/-! ### the order that a key gives -/
def ltK (kf : Int → Int) (a b : Int) : Bool := decide (kf a < kf b)
theorem ltK_swo (kf : Int → Int) : Swo (ltK kf) := by
  refine ⟨fun x y h => ?_, fun x y z h1 h2 => ?_⟩
  · have a := of_decide_eq_true (p := kf x < kf y) h
    exact decide_eq_false (p := kf y < kf x) (by omega)
  · have a := of_decide_eq_false (p := kf y < kf x) h1
    have b := of_decide_eq_false (p := kf z < kf y) h2
    exact decide_eq_false (p := kf z < kf x) (by omega)
/-- another order that agrees on the items -/
theorem Stb.on {α : Type} {lt lt' : α → α → Bool} (O' : Swo lt') {l m : List α} (e : ∀ a ∈ m, ∀ b ∈ m, lt a b = lt' a b) (h : Stb lt l m) : Stb lt' l m := by
  refine ⟨h.perm, fun x => ?_⟩
  have hm : ∀ a, a ∈ l ↔ a ∈ m := fun a => h.perm.mem_iff
  by_cases ex : ∃ u, u ∈ m ∧ eqv lt' x u = true
  · obtain ⟨u, hu, he⟩ := ex
    have e1 : eqv lt' x = eqv lt' u := funext fun v => eqv_trans O' he
    have e2 : ∀ k : List α, (∀ a ∈ k, a ∈ m) → k.filter (eqv lt' u) = k.filter (eqv lt u) := fun k hk => List.filter_congr fun a ha => by
      unfold eqv
      rw [e u hu a (hk a ha), e a (hk a ha) u hu]
    rw [e1, e2 l (fun a ha => (hm a).mp ha), e2 m (fun a ha => ha), h.cls u]
  · have no : ∀ k : List α, (∀ a ∈ k, a ∈ m) → k.filter (eqv lt' x) = [] := fun k hk => List.filter_eq_nil_iff.mpr fun u hu q => ex ⟨u, hk u hu, q⟩
    rw [no l (fun a ha => (hm a).mp ha), no m (fun a ha => ha)]
theorem srtd_on {α : Type} {lt lt' : α → α → Bool} {l : List α} (e : ∀ a ∈ l, ∀ b ∈ l, lt a b = lt' a b) (h : Srtd lt l) : Srtd lt' l :=
  List.Pairwise.imp_of_mem (fun {a b} ha hb q => by rw [← e b hb a ha]; exact q) h
theorem keyed_out {keys its : List Value} {ns : List Int} {kf : Int → Int} {ps : List Keyed} (hk : IntsAre keys (ns.map kf)) (hi : IntsAre its ns) (h1 : Srtd (lt2 ltIv) ps) (h2 : Stb (lt2 ltIv) ps (keys.zip its)) :
    ∃ ns' : List Int, IntsAre (ps.map (·.2)) ns' ∧ Srtd (ltK kf) ns' ∧ Stb (ltK kf) ns' ns := by
  have ez : (keys.zip its).map (fun p : Keyed => iv p.2) = ns := by
    have e1 : (keys.zip its).map (fun p : Keyed => iv p.2) = ((keys.zip its).map (·.2)).map iv := by rw [List.map_map]; rfl
    rw [e1, List.map_snd_zip (by have a := hk.length; have b := hi.length; rw [List.length_map] at a; omega), iv_ints hi]
  have ek : ∀ {keys its : List Value} {ns : List Int}, IntsAre keys (ns.map kf) → IntsAre its ns → ∀ p ∈ keys.zip its, iv p.1 = kf (iv p.2) := by
    intro keys its ns
    induction ns generalizing keys its with
    | nil =>
      intro a b p hp
      cases b
      cases a
      simp at hp
    | cons n ns ih =>
      intro a b p hp
      cases b with
      | cons _ t r =>
        cases a with
        | cons _ t' r' =>
          rw [List.zip_cons_cons] at hp
          rcases List.mem_cons.mp hp with e | hp
          · rw [e] <;> rfl
          · exact ih r' r p hp
  have ek := ek hk hi
  have O : Swo (fun p q : Keyed => ltK kf (iv p.2) (iv q.2)) := ⟨fun x y => (ltK_swo kf).asym _ _, fun x y z => (ltK_swo kf).tr _ _ _⟩
  have ag : ∀ a ∈ keys.zip its, ∀ b ∈ keys.zip its, lt2 ltIv a b = ltK kf (iv a.2) (iv b.2) := fun a ha b hb => by
    show decide (iv a.1 < iv b.1) = decide (kf (iv a.2) < kf (iv b.2))
    rw [ek a ha, ek b hb]
  refine ⟨ps.map fun p => iv p.2, ?_, ?_, ?_⟩
  · have e : (ps.map fun p : Keyed => iv p.2) = (ps.map (·.2)).map iv := by rw [List.map_map]; rfl
    rw [e]
    refine ints_iv fun v hv => ?_
    obtain ⟨p, hp, rfl⟩ := List.mem_map.mp hv
    have hp2 := h2.perm.mem_iff.mp hp
    exact ints_mem hi _ (List.of_mem_zip (show (p.1, p.2) ∈ keys.zip its from hp2)).2
  · exact List.pairwise_map.mpr (srtd_on (fun a ha b hb => ag a (h2.perm.mem_iff.mp ha) b (h2.perm.mem_iff.mp hb)) h1)
  · have := Stb.map (ltK_swo kf) (fun p : Keyed => iv p.2) (Stb.on O ag h2)
    rw [ez] at this
    exact this
section
variable {X : Cx} {pins : List (Addr × Obj)} {σ : L2.St} {H : Hp} {s : Shared} {scope : Scope} {j : Nat} {x : Str}
theorem fp_pins {pins' : List (Addr × Obj)} {b : Addr} (f : FpOk X pins H b) (h : ∀ p ∈ pins', p.1 ≠ b) : FpOk X pins' H b :=
  ⟨f.1, f.2.1, f.2.2.1, f.2.2.2.1, f.2.2.2.2.1, fun p hp => (List.mem_append.mp hp).elim (fun z => f.2.2.2.2.2 p (List.mem_append_left _ z)) (h p)⟩
theorem frs_no {b : Addr} {o : Obj} (I : Inv X pins σ H s) (h : b ∉ frs X.stack) (ho : s.heap.get? b = some o) (hd : ∀ es ep, o.data ≠ .dict es ep) : b ≠ X.env.locals ∧ b ∉ X.fs := by
  refine ⟨fun z => ?_, fun z => h ?_⟩
  · obtain ⟨m, ⟨o', es, ep, ho', hd', _⟩, _⟩ := I.loc
    rw [← z, ho] at ho'
    cases ho'
    exact hd _ _ hd'
  · rcases I.ok.stk with e | ⟨e, hf⟩
    · rw [e]
      exact z
    · rw [e]
      unfold frs
      rw [List.filterMap_cons, hf]
      exact List.mem_cons_of_mem _ z

theorem sortKey_run {f c' : Addr} {params : Arguments} {body : Expr} {pm ctv : Value} {k : Nat} {tb : TE} {a : Addr} {ns : List Int} {kf : Int → Int} {Q : VK}
    (I : Inv X pins σ H s) (L : LamP X.env.scope scope X.N j x) (hr : Room (k + 3) X.A)
    (ho : s.heap.get? f = some (PySem.W.kla_obj "<lambda>" (X.env.qual ++ "<lambda>") params body scope (cloFrom X.env.cells scope.names []) pm c' ctv)) (hfn : H f = none) (hfr : f ∉ frs X.stack) (hc : H c' = some (CodeO c' (X.env.qual ++ "<lambda>")))
    (hbind : ∀ u : Value, bindArgs (PySem.W.kla_fn "<lambda>" (X.env.qual ++ "<lambda>") params body scope (cloFrom X.env.cells scope.names []) pm (.ref c') ctv) ⟨[u], []⟩ = pure [(x, u)])
    (hbody : ∀ (A : Around) (s : Shared) (H : Hp), Room k (A.deeper (lamEnv X scope s.heap.objs.size f c')) → PE (lamCx X A X.stack s H (fun _ _ _ => False) scope f c') body tb)
    (hs : SqL X.K H a (ns.map V.int)) (key : ∀ n ∈ ns, tb (σ.set j (some (.int n))) H fun w H' => w = .int (kf n) ∧ H' = H)
    (q : ∀ (ns' : List Int) (p : Addr), Srtd (ltK kf) ns' → Stb (ltK kf) ns' ns → H p = none → Q (.ref p) (upd H p (.lst (ns'.map V.int)))) :
    wpAny (model X.prog X.w) X.A (call (.builtin "sorted") [.ref a] [(Str.ofString "key", .ref f)]) (EP X pins σ Q) X.xe s := by
  obtain ⟨its, rv, hl, hz⟩ := I.list hs
  have hi := rv.ints
  have hlen : its.length = ns.length := by rw [← rv.length, List.length_map]
  rw [List.length_map] at hz
  have hz2 : its.length ≤ sizeLine := by rw [hlen]; exact hz
  obtain ⟨fL, fF⟩ := frs_no I hfr ho (fun es ep z => by cases z)
  refine call_function_entry_kw kind_sorted plain_sorted entry_sorted (ksk_s1 _ _) ?_
  unfold Builtin.«sorted»
  refine wpAny_bind (m := checkCount "sorted" 1 1 _) (wpAny_pure ?_)
  refine wpAny_bind (collect_list hl.isList ?_ hz2)
  refine wpAny_bind (wpAny_newList ?_ hz2)
  have hsz : ((s.heap.push (seqObj "list" #[] 0)).update s.heap.objs.size (Obj.mapSeq (· ++ its.toArray))).objs.size = s.heap.objs.size + 1 := by
    rw [Heap.size_update, size_push']
  have hoL : (((s.heap.push (seqObj "list" #[] 0)).update s.heap.objs.size (Obj.mapSeq (· ++ its.toArray))).push (seqObj "list" its.toArray 0)).get? (s.heap.objs.size + 1) = some (seqObj "list" its.toArray 0) := by
    rw [← hsz]; exact Heap.get?_push_size _ rfl
  have keep : ∀ b o, s.heap.get? b = some o → (((s.heap.push (seqObj "list" #[] 0)).update s.heap.objs.size (Obj.mapSeq (· ++ its.toArray))).push (seqObj "list" its.toArray 0)).get? b = some o := fun b o q => by
    have hlt : b < s.heap.objs.size := Heap.lt_size q
    rw [Heap.get?_push_ne _ _ _ (by rw [hsz]; exact Nat.ne_of_lt (Nat.lt_succ_of_lt hlt)), Heap.get?_update_ne _ _ _ _ (Nat.ne_of_lt hlt), Heap.get?_push_ne _ _ _ (Nat.ne_of_lt hlt)]
    exact q
  show wpAny _ _ _ _ _ { s with heap := ((s.heap.push (seqObj "list" #[] 0)).update s.heap.objs.size (Obj.mapSeq (· ++ its.toArray))).push (seqObj "list" its.toArray 0) }
  rw [hsz]
  generalize hD : s.heap.objs.size + 1 = D at hoL ⊢
  have hDs : s.heap.objs.size ≤ D := by omega
  have nD : H D = none := I.hok.fresh hDs
  have fD : FpOk X pins H D := I.fpOk hDs nD
  have nDf : f ≠ D := Nat.ne_of_lt (Nat.lt_of_lt_of_le (Heap.lt_size ho) hDs)
  generalize ehh1 : ((s.heap.push (seqObj "list" #[] 0)).update s.heap.objs.size (Obj.mapSeq (· ++ its.toArray))).push (seqObj "list" its.toArray 0) = hh1 at hoL keep ⊢
  have I1 : Inv X (pins ++ [(f, PySem.W.kla_obj "<lambda>" (X.env.qual ++ "<lambda>") params body scope (cloFrom X.env.cells scope.names []) pm c' ctv)]) σ H { s with heap := hh1 } := by
    refine Inv.kept (s := s) (t' := s.toks) (I.pins_of fun p hp => ?_) keep
    rcases List.mem_append.mp hp with hp | hp
    · exact I.pin p (List.mem_append_right _ hp)
    · rw [List.mem_singleton.mp hp]
      exact ⟨ho, hfn, fL, fF, fun v z => by cases z⟩
  generalize hob : PySem.W.kla_obj "<lambda>" (X.env.qual ++ "<lambda>") params body scope (cloFrom X.env.cells scope.names []) pm c' ctv = ob at ho I1
  have fD1 : FpOk X (pins ++ [(f, ob)]) H D := fp_pins fD fun p hp => by
    rcases List.mem_append.mp hp with hp | hp
    · exact fD.2.2.2.2.2 p (List.mem_append_right _ hp)
    · rw [List.mem_singleton.mp hp]
      exact nDf
  refine wpAny_bind (wpAny_holding (wpAny_call_entry_kw slot_list_sort ⟨_, hoL, rfl⟩ entry_list_sort ?body (ksk_l1 _ _)))
  case body =>
    show wpAny (model X.prog X.w) X.A.in1.in1 (Builtin.«list.sort» ⟨[.ref D], [(Str.ofString "key", .ref f)]⟩) _ _ _
    rw [ksk_t1]
    unfold ksk_tree
    obtain ⟨e1, ho1⟩ : ∃ e1, (hh1.update D (Obj.mapSeq fun _ => (#[] : Array Value))).get? D = some (seqObj "list" #[] e1) := ⟨_, get?_update_seq hoL fun _ => #[]⟩
    refine wpAny_bind (listItems_at hoL rfl ?_)
    refine wpAny_bind (listUpdate_at hoL rfl ?_ (by rw [List.size_toArray]; exact hz2) (Nat.zero_le _))
    refine wpAny_bind (seqEpoch_at ho1 rfl ?_)
    refine wpAny_bind (wpAny_newTuple ?_ (by show its.length ≤ _; exact hz2))
    refine wpAny_bind (wpAny_newList ?_ (Nat.zero_le _))
    refine wpAny_holding ?_
    have I2a : Inv X (pins ++ [(f, ob)]) σ H { s with heap := hh1.update D (Obj.mapSeq fun _ => (#[] : Array Value)) } := by
      have := Inv.turned (t' := s.toks) (h' := hh1.update D (Obj.mapSeq fun _ => (#[] : Array Value))) I1 (fun b o hb e => (Heap.get?_update_ne _ _ _ _ hb).trans e) fD1.1 fD1.2.1 fD1.2.2.2.1 fD1.2.2.2.2.1 fD1.2.2.2.2.2
      exact this
    have I2b : Inv X (pins ++ [(f, ob)] ++ [(D, seqObj "list" #[] e1)]) σ H { s with heap := hh1.update D (Obj.mapSeq fun _ => (#[] : Array Value)) } := I2a.pins_of fun p hp => by
      rcases List.mem_append.mp hp with hp | hp
      · exact I2a.pin p (List.mem_append_right _ hp)
      · rw [List.mem_singleton.mp hp]
        exact ⟨ho1, fD1.1, fD1.2.1, fD1.2.2.1, fun v z => by cases z⟩
    have I2c : Inv X (pins ++ [(f, ob)] ++ [(D, seqObj "list" #[] e1)]) σ H { s with heap := (hh1.update D (Obj.mapSeq fun _ => (#[] : Array Value))).push (seqObj "tuple" its.toArray 0) } := Inv.kept (s := { s with heap := hh1.update D (Obj.mapSeq fun _ => (#[] : Array Value)) }) (t' := s.toks) I2b fun b o e => Heap.get?_push_of_some _ e
    have I2 : Inv X (pins ++ [(f, ob)] ++ [(D, seqObj "list" #[] e1)]) σ H { s with heap := ((hh1.update D (Obj.mapSeq fun _ => (#[] : Array Value))).push (seqObj "tuple" its.toArray 0)).push (seqObj "list" #[] 0) } := Inv.kept (s := { s with heap := (hh1.update D (Obj.mapSeq fun _ => (#[] : Array Value))).push (seqObj "tuple" its.toArray 0) }) (t' := s.toks) I2c fun b o e => Heap.get?_push_of_some _ e
    generalize hkS : ((hh1.update D (Obj.mapSeq fun _ => (#[] : Array Value))).push (seqObj "tuple" its.toArray 0)).objs.size = kS
    have nkS : H kS = none := I2c.hok.fresh (Nat.le_of_eq hkS)
    have fkS : FpOk X (pins ++ [(f, ob)] ++ [(D, seqObj "list" #[] e1)]) H kS := I2c.fpOk (Nat.le_of_eq hkS) nkS
    have okS : (((hh1.update D (Obj.mapSeq fun _ => (#[] : Array Value))).push (seqObj "tuple" its.toArray 0)).push (seqObj "list" #[] 0)).get? kS = some (seqObj "list" #[] 0) := by
      rw [← hkS]
      exact Heap.get?_push_size _ rfl
    show wpAny (model X.prog X.w) X.A.in1.in1 (ksk_rest D (.ref f) false its.toArray e1 (.ref kS)) _ _ { s with heap := ((hh1.update D (Obj.mapSeq fun _ => (#[] : Array Value))).push (seqObj "tuple" its.toArray 0)).push (seqObj "list" #[] 0) }
    generalize ((hh1.update D (Obj.mapSeq fun _ => (#[] : Array Value))).push (seqObj "tuple" its.toArray 0)).push (seqObj "list" #[] 0) = hh2 at I2 okS ⊢
    generalize hP2 : pins ++ [(f, ob)] ++ [(D, seqObj "list" #[] e1)] = P2 at I2 fkS
    have nDS : D ≠ kS := fkS.2.2.2.2.2 (D, seqObj "list" #[] e1) (List.mem_append_right _ (by rw [← hP2]; simp))
    unfold ksk_rest
    refine wpAny_bind (wpAny_rule ?_)
    first
      | rw [List.forIn_toArray]
      | (rw [← Array.forIn_toList]; simp only [List.toList_toArray])
      | rw [← Array.forIn_toList]
    refine wpAny_bind (ksk_fold (fun i s' => ∃ kA e, Inv X P2 σ H s' ∧ s'.heap.get? kS = some (seqObj "list" kA e) ∧ IntsAre kA.toList ((ns.take i).map kf)) its 0 _ ⟨#[], 0, I2, okS, by simpa using IntsAre.nil⟩ ?step ?done)
    case step =>
      rintro i u s' hx ⟨kA, e, I', ok', hk⟩
      simp only [Nat.zero_add] at hk ⊢
      have hi2 : i < its.length := (List.getElem?_eq_some_iff.mp hx).1
      have hn : ns[i]? = some ns[i] := List.getElem?_eq_getElem (by omega)
      have hu : RelV (.int ns[i]) u := by
        have := rv.get (i := i) (x := V.int ns[i]) (by rw [List.getElem?_map, hn]; rfl)
        obtain ⟨u', e', r'⟩ := this
        rw [hx] at e'
        cases e'
        exact r'
      have I3 : Inv X (P2 ++ [(kS, seqObj "list" kA e)]) σ H s' := I'.pins_of fun p hp => by
        rcases List.mem_append.mp hp with hp | hp
        · exact I'.pin p (List.mem_append_right _ hp)
        · rw [List.mem_singleton.mp hp]
          exact ⟨ok', fkS.1, fkS.2.1, fkS.2.2.1, fun v z => by cases z⟩
      have hof : s'.heap.get? f = some ob := (I'.pin (f, ob) (List.mem_append_right _ (by rw [← hP2]; simp))).1
      have kz : kA.size = i := by
        have h1 := hk.length
        rw [Array.length_toList, List.length_map, List.length_take] at h1
        omega
      rw [← hob] at hof
      refine wpAny_bind (wpAny_attempt (wpAny_call (codeAny_mono (lam_call (A := X.A.in1.in1) (k := k) I3 L I3.env0.in1.in1.frames hr.in1.in1 hof hc (hbind u) hu (hbody _ _ _) (key _ (List.getElem_mem _))) fun r s'' c => ?_)))
      match r, c with
      | .error e, c =>
        obtain ⟨_, _, _, _, _, _, _, _, _, _, _, _, z⟩ := c
        exact z.elim
      | .ok .next, c => exact c.elim
      | .ok .brk, c => exact c.elim
      | .ok .cont, c => exact c.elim
      | .ok (.ret v), c =>
        obtain ⟨w, H', I4, rw', ew, eH⟩ := I3.after c
        subst ew
        rw [eH] at I4
        obtain ⟨t2, rfl⟩ := rw'
        have ok4 : s''.heap.get? kS = some (seqObj "list" kA e) := (I4.pin (kS, seqObj "list" kA e) (List.mem_append_right _ (by simp))).1
        try dsimp only
        obtain ⟨c2, hc2⟩ : ∃ c2, (s''.heap.update kS (Obj.mapSeq (·.push (.int (kf ns[i]) t2)))).get? kS = some (seqObj "list" (kA.push (.int (kf ns[i]) t2)) c2) := ⟨_, get?_update_seq ok4 (·.push (.int (kf ns[i]) t2))⟩
        have I5 : Inv X P2 σ H { s'' with heap := s''.heap.update kS (Obj.mapSeq (·.push (.int (kf ns[i]) t2))) } := by
          have := Inv.turned (t' := s''.toks) (h' := s''.heap.update kS (Obj.mapSeq (·.push (.int (kf ns[i]) t2)))) I4.unpinned (fun b o hb e => (Heap.get?_update_ne _ _ _ _ hb).trans e) fkS.1 fkS.2.1 fkS.2.2.2.1 fkS.2.2.2.2.1 fkS.2.2.2.2.2
          exact this
        refine wpAny_bind (listUpdate_at ok4 rfl ?_ (by rw [kz]; omega) (Nat.le_trans (Nat.le_of_eq (Array.size_push ..)) (by rw [kz]; omega)))
        refine wpAny_pure ⟨rfl, _, _, I5, hc2, ?_⟩
        have ek : (ns.take (i + 1)).map kf = (ns.take i).map kf ++ [kf ns[i]] := by rw [List.take_add_one, hn, List.map_append]; rfl
        have ea : (kA.push (Value.int (kf ns[i]) t2)).toList = kA.toList ++ [Value.int (kf ns[i]) t2] := by simp
        rw [ea, ek]
        exact ksk_snoc hk
    case done =>
      rintro s3 ⟨kA, e, I', ok', hk⟩
      have hk' : IntsAre kA.toList (ns.map kf) := by
        have e3 : ns.take (0 + its.length) = ns := List.take_of_length_le (by omega)
        rw [e3] at hk
        exact hk
      have kz : kA.size = its.length := by
        have h1 := hk'.length
        rw [Array.length_toList, List.length_map] at h1
        omega
      try dsimp only
      refine wpAny_bind (listItems_at ok' rfl ?_)
      have oD : s3.heap.get? D = some (seqObj "list" #[] e1) := (I'.pin (D, seqObj "list" #[] e1) (List.mem_append_right _ (by rw [← hP2]; simp))).1
      have tail : ∀ st : SortSt, Srtd (lt2 ltIv) (arrOf st).toList → Stb (lt2 ltIv) (arrOf st).toList (kA.toList.zip its) → failedOf st = none →
          wpAny (model X.prog X.w) X.A.in1.in1 (ksk_tail D false e1 (.ref kS) st) (fun fin s' => ∃ v, fin = .done (.ret v) ∧ wpAny (model X.prog X.w) X.A.in1 (do ret (.ref D)) (fun fin s' => ∃ v, fin = .done (.ret v) ∧ EP X pins σ Q v s') X.xe s') X.xe s3 := by
        intro st h1 h2 hfl
        obtain ⟨ns', k1, k2, k3⟩ := keyed_out hk' hi h1 h2
        have hsz2 : (arrOf st).size = its.length := by
          have := h2.len
          rw [Array.length_toList, List.length_zip, Array.length_toList, kz, Nat.min_self] at this
          exact this
        have s1u : ∀ b o, b ≠ kS → s3.heap.get? b = some o → (s3.heap.update kS (Obj.mapSeq fun _ => (#[] : Array Value))).get? b = some o := fun b o hb e => (Heap.get?_update_ne _ _ _ _ hb).trans e
        have oD1 := s1u D _ nDS oD
        have IA : Inv X P2 σ H { s3 with heap := s3.heap.update kS (Obj.mapSeq fun _ => (#[] : Array Value)) } := by
          have := Inv.turned (t' := s3.toks) (h' := s3.heap.update kS (Obj.mapSeq fun _ => (#[] : Array Value))) I' s1u fkS.1 fkS.2.1 fkS.2.2.2.1 fkS.2.2.2.2.1 fkS.2.2.2.2.2
          exact this
        have IB : Inv X pins σ H { s3 with heap := s3.heap.update kS (Obj.mapSeq fun _ => (#[] : Array Value)) } := IA.pins_of fun p hp => IA.pin p (List.mem_append_right _ (by rw [← hP2]; simp [hp]))
        obtain ⟨c2, hc2⟩ : ∃ c2, ((s3.heap.update kS (Obj.mapSeq fun _ => (#[] : Array Value))).update D (Obj.mapSeq fun _ => (arrOf st).map (·.2))).get? D = some (seqObj "list" ((arrOf st).map (·.2)) c2) := ⟨_, get?_update_seq oD1 fun _ => (arrOf st).map (·.2)⟩
        have hnl : ns'.length = its.length := by rw [k3.len, hlen]
        have IC : Inv X pins σ (upd H D (.lst (ns'.map V.int))) { s3 with heap := (s3.heap.update kS (Obj.mapSeq fun _ => (#[] : Array Value))).update D (Obj.mapSeq fun _ => (arrOf st).map (·.2)) } := by
          have := Inv.take (t' := s3.toks) (h' := (s3.heap.update kS (Obj.mapSeq fun _ => (#[] : Array Value))).update D (Obj.mapSeq fun _ => (arrOf st).map (·.2))) (o := .lst (ns'.map V.int)) IB (fun b o hb e => (Heap.get?_update_ne _ _ _ _ hb).trans e) fD
            ⟨by rw [List.length_map, hnl]; exact hz2, (arrOf st).toList.map (·.2), c2, vals_of_ints k1, by rw [hc2, ← Array.toList_map]⟩
          exact this
        unfold ksk_tail
        try dsimp only
        refine wpAny_bind (listUpdate_at ok' rfl ?_ (by rw [kz]; exact hz2) (Nat.zero_le _))
        refine wpAny_bind (wpAny_letGo ?_)
        refine wpAny_bind (seqEpoch_at oD1 rfl ?_)
        refine wpAny_bind (listUpdate_at oD1 rfl ?_ (Nat.zero_le _) ?_)
        · rw [hfl]
          simp only [bne_self_eq_false, Bool.false_eq_true, if_false]
          refine wpAny_pure ⟨_, rfl, ?_⟩
          exact wpAny_pure ⟨_, rfl, .ref D, _, IC, rfl, q ns' D k2 k3 nD⟩
        · simp only [Bool.false_eq_true, if_false, Array.size_map]
          rw [hsz2]
          omega
      unfold ksk_end
      try dsimp only
      rw [if_neg Bool.false_ne_true]
      have ezz : (kA.zip its.toArray).toList = kA.toList.zip its := ksk_zip kA its
      by_cases h2 : its.toArray.size < 2
      · rw [if_pos h2, if_pos h2]
        refine wpAny_bind (wpAny_pure ?_)
        rw [StateT.run_pure]
        refine wpAny_bind (wpAny_pure ?_)
        try dsimp only
        rw [if_neg Bool.false_ne_true]
        rw [List.size_toArray] at h2
        refine tail (SortSt.mk' general' (kA.zip its.toArray) #[] 7 none) ?_ ?_ rfl
        · show Srtd _ (kA.zip its.toArray).toList
          rw [ezz]
          have hl2 : (kA.toList.zip its).length < 2 := by rw [List.length_zip]; omega
          match kA.toList.zip its, hl2 with
          | [], _ => exact List.Pairwise.nil
          | [v], _ => exact List.pairwise_singleton _ _
          | _ :: _ :: l, h => exact absurd h (by rw [List.length_cons, List.length_cons]; omega)
        · show Stb _ (kA.zip its.toArray).toList _
          rw [ezz]
          exact Stb.refl _
      · rw [if_neg h2, if_neg h2]
        rw [List.size_toArray] at h2
        rw [ksk_kind hk' (by rw [kz]; omega)]
        refine wpAny_bind (wpAny_pure ?_)
        rw [if_neg Bool.false_ne_true]
        have hall : AllL (fun p : Keyed => p.1 ∈ kA.toList) (kA.zip its.toArray).toList := fun p hm => by
          rw [ezz] at hm
          exact (List.of_mem_zip (show (p.1, p.2) ∈ _ from hm)).1
        refine wpAny_bind (wpAny_mono (wpS_sortO (st0 := SortSt.mk' oneType' (kA.zip its.toArray) #[] 7 none)
          (Q := fun _ st' => Srtd (lt2 ltIv) (arrOf st').toList ∧ Stb (lt2 ltIv) (arrOf st').toList (kA.zip its.toArray).toList ∧ failedOf st' = none) (swo2 swo_int) (int_cmp hk') rfl hall rfl rfl fun st' a1 a2 a3 => ⟨a1, a2, a3⟩) ?_ fun _ _ e => e)
        rintro ⟨⟨⟩, st'⟩ s' ⟨rfl, hp1, hp2, hf⟩
        try dsimp only
        rw [ezz] at hp2
        exact tail st' hp1 hp2 hf

/-- all but what stands at P stays -/
def ExtP (P : Addr) (H H' : Hp) : Prop := ∀ b o, b ≠ P → H b = some o → H' b = some o
/-- the table at P before (H) and after (H'): its code objects are old ones or were not there -/
def TabTo (P : Addr) (q : Str) (H H' : Hp) : Prop := ∃ ps ps' : Array Value, H P = some (.tbl ps) ∧ H' P = some (.tbl ps') ∧ TriplesOk ps'.toList ∧
  ∀ (pos : Pos) (cv : Value), codeAmong pos ps'.toList = some cv → ∃ c, cv = .ref c ∧ H' c = some (CodeO c q) ∧ (H c = none ∨ ∃ pos', codeAmong pos' ps.toList = some (.ref c))
/-- a lambda is made: H' is H but for the table -/
theorem lam_new {c P : Addr} {params : Arguments} {body : Expr} {pos : Pos} {E Q : Value → Shared → Prop} (I : Inv X pins σ H s) (TB : TabB X.base X.mg c P) (hcode : X.env.code = .ref c) (hT : TabS H P (X.env.qual ++ "<lambda>"))
    (hdef : defaultsOf params X.env = ([], [])) (hfree : ∀ y ∈ scope.names, y.2 = .free → ∃ c, X.env.cells.lookup y.1 = some c)
    (h : ∀ (f c' : Addr) (pm ctv : Value) (H' : Hp) (s' : Shared), Inv X pins σ H' s' → ExtP P H H' → TabTo P (X.env.qual ++ "<lambda>") H H' →
      s'.heap.get? f = some (PySem.W.kla_obj "<lambda>" (X.env.qual ++ "<lambda>") params body scope (cloFrom X.env.cells scope.names []) pm c' ctv) → H' f = none → f ∉ frs X.stack → H' c' = some (CodeO c' (X.env.qual ++ "<lambda>")) → Q (.ref f) s') :
    wpAny (model X.prog X.w) X.A (eval (.Lambda params body scope pos) X.env) Q E s := by
  generalize hqq : X.env.qual ++ "<lambda>" = qq at hT h ⊢
  obtain ⟨ps, tab, triples, among⟩ := hT
  have built := TB.bm.keeps I.bk
  have tabO : s.heap.get? P = some { cls := .none, data := .fields ps } := I.hok P _ tab
  have above : ∀ b, s.heap.objs.size ≤ b → b ∉ frs X.stack := fun b hb mem => by
    rcases List.mem_cons.mp (I.stkSub _ mem) with e | e
    · have l := I.lt
      rw [e] at hb
      exact Nat.lt_irrefl _ (Nat.lt_of_lt_of_le l hb)
    · exact I.nofs hb e
  apply PySem.W.kla_eval hdef
  rw [hqq]
  cases found : codeAmong pos ps.toList with
  | some cv =>
    obtain ⟨c', rfl, codeC⟩ := among pos cv found
    apply PySem.W.kla_makeFunctionHit (mg := X.mg) (c := c) (P := P) (ps := ps) (closure_ok hfree) I.ok.glob (I.mod.glob.keeps I.bk) hcode (TB.code.keeps I.bk) tabO triples found built
    intro ctv g tk old size
    have J : Inv X pins σ H { s with heap := g.push (PySem.W.kla_obj "<lambda>" qq params body scope (cloFrom X.env.cells scope.names []) ((X.mg "__name__").getD .none) c' ctv), toks := tk } := I.kept fun b o e => Heap.get?_push_of_some _ (old b o e)
    refine h g.objs.size c' _ ctv H _ J (fun _ _ _ e => e) ⟨ps, ps, tab, tab, triples, fun p' cv' hc => ?_⟩ (Heap.get?_push_size _ rfl) (I.hok.fresh size) (above _ size) codeC
    obtain ⟨c2, rfl, h2⟩ := among p' cv' hc
    exact ⟨c2, rfl, h2, .inr ⟨p', hc⟩⟩
  | none =>
    apply PySem.W.kla_makeFunction (mg := X.mg) (c := c) (P := P) (ps := ps) (closure_ok hfree) I.ok.glob (I.mod.glob.keeps I.bk) hcode (TB.code.keeps I.bk) tabO triples found TB.gP built
    rintro c' ctv g tk but ge lt ⟨c2, oc, vs, t, e2, at2, dat2, name2⟩ tab2
    cases e2
    have big : s.heap.objs.size ≤ g.objs.size := by omega
    have no : H c' = none := I.hok.fresh ge
    generalize hps : ps ++ #[rawInt pos.line, rawInt pos.col, .ref c'] = ps2 at tab2
    have J := inv_table (t' := tk) (more := #[rawInt pos.line, rawInt pos.col, .ref c']) (h' := g.push (PySem.W.kla_obj "<lambda>" qq params body scope (cloFrom X.env.cells scope.names []) ((X.mg "__name__").getD .none) c' ctv)) I tab
      (fun b o hb e => Heap.get?_push_of_some _ (but b o hb e)) (Heap.get?_push_of_some _ (by rw [hps]; exact tab2)) ge ⟨oc, vs, t, Heap.get?_push_of_some _ at2, dat2, name2⟩
    rw [hps] at J
    have neP : P ≠ c' := ne_of_none tab no
    have sideways : ∀ b, b ≠ P → b ≠ c' → upd (upd H P (.tbl ps2)) c' (CodeO c' qq) b = H b := fun b h1 h2 => by rw [upd_ne h2, upd_ne h1]
    have ext : ExtP P H (upd (upd H P (.tbl ps2)) c' (CodeO c' qq)) := fun b o n e => by
      rw [sideways b n (ne_of_none e no)]
      exact e
    have apart : ∀ b u, H b = some u → (∀ ps, u ≠ .tbl ps) → b ≠ P := fun b u e n z => by
      rw [z, tab] at e
      exact n ps (Option.some.inj e).symm
    have lst : ps2.toList = ps.toList ++ [rawInt pos.line, rawInt pos.col, .ref c'] := by rw [← hps]; simp
    refine h g.objs.size c' _ ctv _ _ J ext ⟨ps, ps2, tab, by rw [upd_ne neP, upd_same], by rw [lst]; exact PySem.TriplesOk_snoc _ _ _ _ triples, fun p' cv' hc => ?_⟩ (Heap.get?_push_size _ rfl) ?_ (above _ big) upd_same
    · rw [lst] at hc
      rcases among_app _ triples hc with z | z
      · obtain ⟨c3, rfl, h3⟩ := among p' cv' z
        exact ⟨c3, rfl, ext _ _ (apart _ _ h3 codeO_ne) h3, .inr ⟨p', z⟩⟩
      · exact ⟨c', z, upd_same, .inl no⟩
    · have tabSize := Heap.lt_size tabO
      rw [sideways _ (Nat.ne_of_gt (Nat.lt_of_lt_of_le tabSize big)) (Nat.ne_of_gt lt)]
      exact I.hok.fresh big
def tSrtL (K : PySem.W.Frag) (P : Addr) (q : Str) (j : Nat) (te tb : TE) : TE := fun σ H Q => te σ H fun x H1 => ∃ (a : Addr) (ns : List Int) (kf : Int → Int), x = .ref a ∧ SqL K H1 a (ns.map V.int) ∧ TabS H1 P q ∧ ∀ H2, ExtP P H1 H2 → TabTo P q H1 H2 →
  (∀ n ∈ ns, tb (σ.set j (some (.int n))) H2 fun w H' => w = .int (kf n) ∧ H' = H2) ∧ ∀ (ns' : List Int) (p : Addr), Srtd (ltK kf) ns' → Stb (ltK kf) ns' ns → H2 p = none → Q (.ref p) (upd H2 p (.lst (ns'.map V.int)))
theorem pe_sortL {c P : Addr} {q : Str} {e : Expr} {te tb : TE} {params : Arguments} {body : Expr} {k : Nat} {p lpos kpos pos : Pos}
    (hg : Gl X "sorted") (hm : X.mg "sorted" = none) (he : PE X e te) (TB : TabB X.base X.mg c P) (hcode : X.env.code = .ref c) (L : LamP X.env.scope scope X.N j x) (hr : Room (k + 3) X.A)
    (hdef : defaultsOf params X.env = ([], []))
    (hbind : ∀ (q : Str) (cl : List (Str × Addr)) (pm cv ctv u : Value), bindArgs (PySem.W.kla_fn "<lambda>" q params body scope cl pm cv ctv) ⟨[u], []⟩ = pure [(x, u)])
    (hbody : ∀ (A : Around) (s : Shared) (H : Hp) (f c' : Addr), Room k (A.deeper (lamEnv X scope s.heap.objs.size f c')) → PE (lamCx X A X.stack s H (fun _ _ _ => False) scope f c') body tb)
    (hq : X.env.qual ++ "<lambda>" = q) (hs : starEach [e] X.env = (false, eval e X.env) :: starEach [] X.env := by rfl) :
    PE X (.Call (.Name "sorted" p) [e] [⟨some "key", .Lambda params body scope lpos, kpos⟩] pos) (tSrtL X.K P q j te tb) := by
  refine ⟨fun pins s σ H Q I h => ?_⟩
  refine wpAny_Call_Name_kw (ld_blt I hg hm (u := .builtin "sorted") (by decide +kernel) ?_ (by decide) (by decide))
  refine PyProof.Rows.callWith_kw (thn ((pa_cons he pa_nil hs).run pos pins s σ H (fun vs H1 => match vs with
    | [x] => ∃ (a : Addr) (ns : List Int) (kf : Int → Int), x = .ref a ∧ SqL X.K H1 a (ns.map V.int) ∧ TabS H1 P q ∧ ∀ H2, ExtP P H1 H2 → TabTo P q H1 H2 →
      (∀ n ∈ ns, tb (σ.set j (some (.int n))) H2 fun w H' => w = .int (kf n) ∧ H' = H2) ∧ ∀ (ns' : List Int) (p : Addr), Srtd (ltK kf) ns' → Stb (ltK kf) ns' ns → H2 p = none → Q (.ref p) (upd H2 p (.lst (ns'.map V.int)))
    | _ => False) I h) fun us s1 ⟨vs, H1, I1, r1, q1⟩ => ?_) (by rw [hs]; rfl) (by rw [hs]; rfl) rfl rfl
  match vs, r1, q1 with
  | [x1], r1, q1 =>
    obtain ⟨a, ns, kf, rfl, hsq, hT, q1⟩ := q1
    obtain rfl := Vals.ref1 r1
    show wpAny _ _ (evalAll ((do let v ← eval (.Lambda params body scope lpos) X.env; standAt pos; pure v) :: [])) _ _ s1
    refine wpAny_evalAll_cons (wpAny_bind (lam_new I1 TB hcode (by rw [hq]; exact hT) hdef (L.has I1.ok) fun f c' pm ctv H2 s2 I2 eN T2 hf hfn hfr hco => wpAny_bind (wpAny_standAt (wpAny_pure ?_))))
    refine wpAny_evalAll_nil ?_
    rw [hq] at T2
    obtain ⟨k1, k2⟩ := q1 H2 eN T2
    have hsq2 : SqL X.K H2 a (ns.map V.int) := by
      obtain ⟨ps, tab, _⟩ := hT
      have nP : ∀ {u : HO}, H1 a = some u → (∀ ps, u ≠ .tbl ps) → a ≠ P := fun {u} e n z => by
        rw [z, tab] at e
        exact n ps (Option.some.inj e).symm
      rcases hsq with (z | ⟨o, z⟩) | z
      · exact .inl (.inl (eN _ _ (nP z fun ps e => by cases e) z))
      · exact .inl (.inr ⟨o, eN _ _ (nP z fun ps e => by cases e) z⟩)
      · exact .inr z
    exact sortKey_run I2 L hr hf hfn hfr hco (fun u => hbind _ _ _ _ _ u) (fun A s H => hbody A s H f c') hsq2 k1 k2
end
end DL

set_option Elab.async false
set_option linter.all false
set_option maxRecDepth 100000
set_option maxHeartbeats 1000000
set_option autoImplicit false
/-! d.get; sorted by what a dict tells of the names at the indexes. -/
namespace DL
open PySem PySem.Spec PyProof.Rows L2 LamX SrtO
section
variable {K : PySem.W.Frag} {m : Mem} {H H2 : Hp} {P : Addr} {q : Str}
theorem MemOk.tabS (M : MemOk K m H) (hP : MAt m P (.tbl q)) : TabS H P q := by
  obtain ⟨i, hP⟩ := hP
  obtain ⟨ps, h1, h2, h3⟩ := M.get hP
  refine ⟨ps, h1, h2, fun pos cv hc => ?_⟩
  obtain ⟨c, e1, e2⟩ := h3 pos cv hc
  exact ⟨c, e1, hide_le _ _ e2⟩
theorem MemOk.tab (M : MemOk K m H) (hP : MAt m P (.tbl q)) (e : ExtP P H H2) (t : TabTo P q H H2) : MemOk K m H2 ∧ Sub (hide m H) (hide m H2) := by
  obtain ⟨i, hP⟩ := hP
  have inP : P ∈ m.map Prod.fst := List.mem_map.mpr ⟨_, List.mem_of_getElem? hP, rfl⟩
  have sb : Sub (hide m H) (hide m H2) := fun a o ha => by
    by_cases hm : a ∈ m.map Prod.fst
    · rw [hide_in hm] at ha
      cases ha
    · rw [hide_out hm] at ha ⊢
      exact e a o (fun z => hm (z ▸ inP)) ha
  refine ⟨⟨M.nd, fun p c hm => ?_⟩, sb⟩
  by_cases hp : p = P
  · subst hp
    have ec : c = .tbl q := by
      obtain ⟨j, hj⟩ := List.getElem?_of_mem hm
      have l1 : j < (m.map Prod.fst).length := by rw [List.length_map]; exact (List.getElem?_eq_some_iff.mp hj).1
      have eij : j = i := (List.getElem?_inj l1 M.nd).mp (by rw [List.getElem?_map, List.getElem?_map, hP, hj]; rfl)
      rw [eij, hP] at hj
      cases hj
      rfl
    subst ec
    obtain ⟨ps, ps', t1, t2, t3, t4⟩ := t
    obtain ⟨ps0, h1, _, h3⟩ := M.get hP
    rw [t1] at h1
    cases h1
    refine ⟨ps', t2, t3, fun pos cv hc => ?_⟩
    obtain ⟨c, e1, e2, e3⟩ := t4 pos cv hc
    refine ⟨c, e1, ?_⟩
    rcases e3 with z | ⟨pos', z⟩
    · rw [hide_out (M.fresh z)]
      exact e2
    · obtain ⟨c0, f1, f2⟩ := h3 pos' _ z
      cases f1
      exact sb _ _ f2
  · have h := M.at_ p c hm
    obtain ⟨o, ho⟩ := h.some
    exact h.mono sb ((e p o hp ho).trans ho.symm)
end
section
variable {K : PySem.W.Frag} {δ : List (Option D)} {m : Mem} {Q : D → Mem → Prop} {td ty tx te : TE}
/-- a dict, as data or as a cell -/
def DctIn (m : Mem) (x : D) (kvs : List (Key × D)) : Prop := x = .dic kvs ∨ ∃ p, x = .adr p ∧ MAt m p (.dic kvs)
theorem DctIn.of {kvs : List (Key × D)} : DctIn m (.dic kvs) kvs := .inl rfl
theorem DctIn.at_ {p : Addr} {kvs : List (Key × D)} (h : MAt m p (.dic kvs)) : DctIn m (.adr p) kvs := .inr ⟨p, rfl, h⟩
theorem DctIn.app {r : Mem} {x : D} {kvs : List (Key × D)} (h : DctIn m x kvs) : DctIn (m ++ r) x kvs := h.imp id fun ⟨p, e, h⟩ => ⟨p, e, h.app⟩
theorem DctIn.cons {c : Addr × Cell} {x : D} {kvs : List (Key × D)} (h : DctIn m x kvs) : DctIn (c :: m) x kvs := h.imp id fun ⟨p, e, h⟩ => ⟨p, e, h.cons⟩
theorem DctIn.get {x : D} {kvs : List (Key × D)} {H : Hp} {v : V} (h : DctIn m x kvs) (M : MemOk K m H) (r : Rd K (hide m H) v x) : ∃ (a : Addr) (xs : List (Key × V)), v = .ref a ∧ H a = some (.dK xs) ∧ xs.map Prod.fst = kvs.map Prod.fst ∧ RdL K (hide m H) (xs.map Prod.snd) (kvs.map Prod.snd) := by
  rcases h with rfl | ⟨p, rfl, i, hm⟩
  · exact dic_at r
  · cases r
    obtain ⟨xs, h1, h2, h3⟩ := dicM_at M hm
    exact ⟨p, xs, rfl, h1, h2, h3⟩
theorem dic_val {H : Hp} {kvs : List (Key × D)} {xs : List (Key × V)} (k : Key) {z : V} {d : D} (e : xs.map Prod.fst = kvs.map Prod.fst) (r : RdL K (hide m H) (xs.map Prod.snd) (kvs.map Prod.snd)) (rz : Rd K (hide m H) z d) : Rd K (hide m H) ((L2.valV xs k).getD z) ((valD kvs k).getD d) := by
  obtain ⟨h1, h2⟩ := RdL.valV k e r
  cases c : valD kvs k with
  | none =>
    rw [h2 c]
    exact rz
  | some y =>
    obtain ⟨v, e1, r1⟩ := h1 y c
    rw [e1]
    exact r1
/-- d.get(k) -/
theorem ew_dget1 (h : EW K td δ m fun x m1 => ∃ kvs, DctIn m1 x kvs ∧ EW K ty δ m1 fun y m2 => ∃ (kvs : List (Key × D)) (k : Key), DctIn m2 x kvs ∧ y = kD k ∧ Q ((valD kvs k).getD .non) m2) : EW K (tDGet1 td ty) δ m Q := fun σ H s M QQ k =>
  h σ H s M _ fun x m1 v H1 ⟨kvs, hd, q1⟩ s1 M1 r1 => by
    obtain ⟨a, xs, rfl, ha, _⟩ := hd.get M1 r1
    refine ⟨a, rfl, .inl ⟨xs, .inl ha⟩, ?_⟩
    refine q1 σ H1 (s.mono s1) M1 _ fun y m2 w H2 ⟨kvs, kk, d2, ey, q2⟩ s2 M2 r2 => ?_
    subst ey
    obtain ⟨a2, xs2, e2, h2, f2, g2⟩ := d2.get M2 (r1.mono s2)
    cases e2
    refine ⟨L2.valV xs2 kk, .inl ⟨xs2, kk, .inl h2, kD_v r2, rfl⟩, ?_⟩
    exact k _ m2 _ H2 q2 (s1.trans s2) M2 (dic_val kk f2 g2 .non)
/-- d.get(k, x) -/
theorem ew_dget2 (h : EW K td δ m fun x m1 => ∃ kvs, DctIn m1 x kvs ∧ EW K ty δ m1 fun y m2 => EW K tx δ m2 fun z m3 => ∃ (kvs : List (Key × D)) (k : Key), DctIn m3 x kvs ∧ y = kD k ∧ Q ((valD kvs k).getD z) m3) : EW K (tDGet2 td ty tx) δ m Q := fun σ H s M QQ k =>
  h σ H s M _ fun x m1 v H1 ⟨kvs, hd, q1⟩ s1 M1 r1 => by
    obtain ⟨a, xs, rfl, ha, _⟩ := hd.get M1 r1
    refine ⟨a, rfl, .inl ⟨xs, .inl ha⟩, ?_⟩
    refine q1 σ H1 (s.mono s1) M1 _ fun y m2 w H2 q2 s2 M2 r2 => ?_
    refine (show EW K tx δ m2 _ from q2) σ H2 ((s.mono s1).mono s2) M2 _ fun z m3 u H3 ⟨kvs, kk, d2, ey, q3⟩ s3 M3 r3 => ?_
    subst ey
    obtain ⟨a2, xs2, e2, h2, f2, g2⟩ := d2.get M3 (r1.mono (s2.trans s3))
    cases e2
    refine ⟨L2.valV xs2 kk, .inl ⟨xs2, kk, .inl h2, kD_v (r2.mono s3), rfl⟩, ?_⟩
    exact k _ m3 _ H3 q3 (s1.trans (s2.trans s3)) M3 (dic_val kk f2 g2 r3)
/-! ### sorted(e, key = lambda i: ranks.get(calls[i], 0)) -/
/-- by rank, then by index -/
def RkLe (kf : Nat → Int) (a b : Nat) : Prop := kf a < kf b ∨ (kf a = kf b ∧ a < b)
theorem pw_of_cls {α : Type} {S T R : α → α → Prop} {e : α → α → Bool} : ∀ {l : List α}, l.Pairwise S → (∀ x ∈ l, (l.filter (e x)).Pairwise T) → (∀ a ∈ l, e a a = true) → (∀ a b, S a b → (e a b = true → T a b) → R a b) → l.Pairwise R
  | [], _, _, _, _ => .nil
  | a :: l, hS, hT, hr, hR => by
    obtain ⟨s1, s2⟩ := List.pairwise_cons.mp hS
    refine List.pairwise_cons.mpr ⟨fun b hb => hR a b (s1 b hb) fun he => ?_, pw_of_cls s2 (fun x hx => ?_) (fun x hx => hr x (List.mem_cons_of_mem _ hx)) hR⟩
    · have := hT a List.mem_cons_self
      rw [List.filter_cons_of_pos (hr a List.mem_cons_self)] at this
      exact (List.pairwise_cons.mp this).1 b (List.mem_filter.mpr ⟨hb, he⟩)
    · have := hT x (List.mem_cons_of_mem _ hx)
      by_cases he : e x a = true
      · rw [List.filter_cons_of_pos he] at this
        exact (List.pairwise_cons.mp this).2
      · rw [List.filter_cons_of_neg he] at this
        exact this
theorem sort_lex {kf : Nat → Int} {ns : List Nat} {out : List Int} (asc : ns.Pairwise (· < ·)) (h1 : Srtd (ltK fun i => kf i.toNat) out) (h2 : Stb (ltK fun i => kf i.toNat) out (ns.map fun n => ((n : Nat) : Int))) :
    ∃ ns' : List Nat, out = ns'.map (fun n => ((n : Nat) : Int)) ∧ ns'.Perm ns ∧ ns'.Pairwise (RkLe kf) := by
  have inj : ∀ i ∈ out, ∃ n : Nat, i = (n : Int) := fun i hi => by
    obtain ⟨n, _, e⟩ := List.mem_map.mp (h2.perm.mem_iff.mp hi)
    exact ⟨n, e.symm⟩
  have eo : out = (out.map Int.toNat).map (fun n => ((n : Nat) : Int)) := by
    rw [List.map_map]
    have : out.map ((fun n : Nat => (n : Int)) ∘ Int.toNat) = out.map id := List.map_congr_left fun i hi => by
      obtain ⟨n, rfl⟩ := inj i hi
      rfl
    rw [this, List.map_id]
  refine ⟨out.map Int.toNat, eo, ?_, ?_⟩
  · have := h2.perm.map Int.toNat
    rw [List.map_map] at this
    have e2 : ns.map (Int.toNat ∘ fun n : Nat => (n : Int)) = ns.map id := List.map_congr_left fun n _ => rfl
    rw [e2, List.map_id] at this
    exact this
  · refine List.pairwise_map.mpr ?_
    refine pw_of_cls (S := fun a b => ¬ (kf b.toNat < kf a.toNat)) (T := fun a b => a.toNat < b.toNat) (e := eqv (ltK fun i => kf i.toNat)) (h1.imp fun h => ?_) (fun x hx => ?_) (fun a _ => ?_) (fun a b s t => ?_)
    · exact of_decide_eq_false (p := kf _ < kf _) h
    · rw [h2.cls x]
      refine List.Pairwise.filter _ ?_
      refine List.pairwise_map.mpr (asc.imp fun h => ?_)
      simpa using h
    · exact eqv_iff.mpr ⟨(ltK_swo _).refl a, (ltK_swo _).refl a⟩
    · by_cases e : kf a.toNat = kf b.toNat
      · refine .inr ⟨e, t (eqv_iff.mpr ⟨?_, ?_⟩)⟩
        · exact decide_eq_false (p := kf a.toNat < kf b.toNat) (by omega)
        · exact decide_eq_false (p := kf b.toNat < kf a.toNat) (by omega)
      · exact .inl (by omega)
theorem rk_uniq {kf : Nat → Int} {l l' : List Nat} (p : l.Perm l') (h : l.Pairwise (RkLe kf)) (h' : l'.Pairwise (RkLe kf)) : l = l' :=
  p.eq_of_pairwise (fun a b _ _ h1 h2 => by
    rcases h1 with h1 | ⟨h1, h3⟩ <;> rcases h2 with h2 | ⟨h2, h4⟩ <;> omega) h h'
theorem ew_sortGet {P : Addr} {q : Str} {r c j : Nat} {kvs : List (Key × D)} {x : D} (hjr : j ≠ r) (hjc : j ≠ c) (hj : j < δ.length) (er : δ[r]? = some (some (.dic kvs))) (ec : δ[c]? = some (some x))
    (h : EW K te δ m fun y m1 => ∃ (ns : List Nat) (ws : List Str) (kf : Nat → Int), y = .lst (ns.map natD) ∧ MAt m1 P (.tbl q) ∧ SeqIn m1 x (ws.map D.str) ∧ ns.Pairwise (· < ·) ∧ (∀ n ∈ ns, ∃ w, ws[n]? = some w ∧ (valD kvs (.inr w)).getD (.int 0) = .int (kf n)) ∧
      ∀ (ns' : List Nat) (z : Addr), ns'.Perm ns → ns'.Pairwise (RkLe kf) → Q (.adr z) (m1 ++ [(z, .lst (ns'.map natD))])) :
    EW K (tSrtL K P q j te (tDGet2 (tVar r) (tOp (rIxU K) (tVar c) (tVar j)) (tC (.int 0)))) δ m Q := fun σ H s M QQ k =>
  h σ H s M _ fun y m1 v H1 ⟨ns, ws, kf, ey, hT, hx, asc, hk, q1⟩ s1 M1 r1 => by
    subst ey
    obtain ⟨a, xs, rfl, ha, hr1⟩ := lst_at r1
    have exs : xs = (ns.map fun n => ((n : Nat) : Int)).map V.int := by
      have e : ns.map natD = (ns.map fun n => ((n : Nat) : Int)).map D.int := by rw [List.map_map]; rfl
      rw [e] at hr1
      exact hr1.ints_v
    subst exs
    refine ⟨a, _, fun i => kf i.toNat, rfl, SqL.of ha, M1.tabS hT, fun H2 eP tT => ⟨fun i hi => ?_, fun ns' p k1 k2 np => ?_⟩⟩
    · obtain ⟨n, hn, rfl⟩ := List.mem_map.mp hi
      obtain ⟨w, hw, hv⟩ := hk n hn
      obtain ⟨M2, s2⟩ := M1.tab hT eP tT
      have S2 := (s.mono s1).mono s2
      obtain ⟨vr, e1, rr⟩ := S2.at_ r _ er
      obtain ⟨vc, e2, rc⟩ := S2.at_ c _ ec
      obtain ⟨ad, xs, rfl, hd, f1, g1⟩ := dic_at rr
      obtain ⟨al, ys, rfl, hl, g2⟩ := hx.get M2 rc
      obtain ⟨z, hz, rz⟩ := g2.get (show (ws.map D.str)[n]? = some (.str w) by rw [List.getElem?_map, hw]; rfl)
      cases rz
      have lj : j < σ.length := by rw [s.len]; exact hj
      have ej : (σ.set j (some (V.int (n : Nat))))[j]? = some (some (V.int (n : Nat))) := by rw [List.getElem?_set_self lj]
      have err : (σ.set j (some (V.int (n : Nat))))[r]? = some (some (V.ref ad)) := by rw [List.getElem?_set_ne hjr]; exact e1
      have ecc : (σ.set j (some (V.int (n : Nat))))[c]? = some (some (V.ref al)) := by rw [List.getElem?_set_ne hjc]; exact e2
      refine ⟨_, err, ad, rfl, .inl ⟨xs, .inl hd⟩, _, ecc, _, ej, .inl ⟨al, ys, (n : Nat), .str w, rfl, rfl, SqL.of hl, L2.atI_nat hz, ?_⟩⟩
      refine ⟨L2.valV xs (.inr w), .inl ⟨xs, .inr w, .inl hd, rfl, rfl⟩, ?_, rfl⟩
      have g := dic_val (.inr w) f1 g1 (z := .int 0) (d := .int 0) (.int 0)
      rw [hv] at g
      generalize (L2.valV xs (.inr w)).getD (.int 0) = gv at g
      cases g
      rfl
    · obtain ⟨out, rfl, p1, p2⟩ := sort_lex asc k1 k2
      obtain ⟨M2, s2⟩ := M1.tab hT eP tT
      have e : (out.map fun n => ((n : Nat) : Int)).map V.int = out.map fun n => V.int (n : Nat) := by rw [List.map_map]; rfl
      have rr : RdL K (hide m1 H2) ((out.map fun n => ((n : Nat) : Int)).map V.int) (out.map natD) := by
        have := RdL.ints (K := K) (F := hide m1 H2) (ns := out.map fun n => ((n : Nat) : Int))
        have e2 : (out.map fun n => ((n : Nat) : Int)).map D.int = out.map natD := by rw [List.map_map]; rfl
        rw [e2] at this
        exact this
      obtain ⟨M3, s3⟩ := new_lstM M2 rr np
      exact k _ _ _ _ (q1 out _ p1 p2) (s1.trans (s2.trans s3)) M3 (.adr _)
/-! ### reversed lists, ranges; None in a set of names -/
theorem ew_revQ (h : EW K te δ m fun x m1 => ∃ ds, SeqIn m1 x ds ∧ Q (.lst ds.reverse) m1) : EW K (tRevL K te) δ m Q := fun σ H s M QQ k =>
  h σ H s M _ fun x m1 v H1 ⟨ds, ex, q⟩ s1 M1 r1 => by
    obtain ⟨p, xs, rfl, e, r⟩ := ex.get M1 r1
    refine ⟨p, xs, rfl, SqL.of e, fun z hz => ?_⟩
    obtain ⟨M2, s2, r3⟩ := new_lst M1 r.reverse hz
    exact k _ m1 _ _ q (s1.trans s2) M2 r3
theorem feeds_rev {n : Nat} {F0 : Hp} : Feeds K (Itc (0 + (((((n : Nat) : Int) - 0).toNat : Nat) : Int) - 1) (-1) ((((n : Nat) : Int) - 0).toNat)) F0 ((List.range n).reverse.map natD) := by
  have en : (((n : Nat) : Int) - 0).toNat = n := by omega
  rw [en]
  refine ⟨fun i m H s M h => ?_, fun i m H x H' d s M h y => ?_, fun m H s M => ?_⟩
  · rw [List.length_map, List.length_reverse, List.length_range] at h
    exact h
  · obtain ⟨rfl, rfl⟩ := y
    rw [List.getElem?_map] at h
    have hi : i < n := by
      cases c : (List.range n).reverse[i]? with
      | none => rw [c] at h; cases h
      | some z =>
        have := (List.getElem?_eq_some_iff.mp c).1
        rwa [List.length_reverse, List.length_range] at this
    rw [List.getElem?_reverse (by rw [List.length_range]; exact hi), List.length_range, List.getElem?_range (by omega)] at h
    cases h
    refine ⟨Sub.refl _, M, ?_⟩
    have e : (0 + ((n : Nat) : Int) - 1 + ((i : Nat) : Int) * (-1)) = ((n - 1 - i : Nat) : Int) := by omega
    rw [e]
    exact .int _
  · rw [List.length_map, List.length_reverse, List.length_range]
    exact Nat.le_refl n
theorem iw_revR {R : List D → Mem → Prop} (h : EW K te δ m fun x m1 => ∃ n : Nat, x = .int (n : Nat) ∧ n ≤ 16777216 ∧ R ((List.range n).reverse.map natD) m1) : IW K (iRevR (tRg1 te)) δ m R := fun σ H s M QQ k =>
  h σ H s M _ fun x m1 v H1 ⟨n, ex, hn, q⟩ s1 M1 r1 => by
    subst ex
    cases r1
    exact ⟨_, rfl, by omega, by omega, by omega, by omega, k _ H1 m1 _ q s1 M1 feeds_rev⟩
end
theorem setOf_none {P : Program} {w : World} {h : Heap} {a : Addr} {S : Key → Bool} {n : Nat} (R : h.SetOf (mixKind P w) a S n) : h.SetOf (noneKind P w) a (fun k => match k with | none => false | some k => S k) n := by
  obtain ⟨o, es, ep, t, ho, hx, hd, hel, hS, h1, h2, h3⟩ := R
  refine ⟨o, es, ep, t, ho, hx, hd, fun e he => ?_, fun k => ?_, h1, h2, h3⟩
  · obtain ⟨⟨k, k1, k2⟩, k3⟩ := hel e he
    exact ⟨⟨some k, k1, k2⟩, k3⟩
  · cases k with
    | some k => exact hS k
    | none =>
      refine ⟨fun z => (Bool.noConfusion z : False).elim, fun ⟨e, he, hk⟩ => ?_⟩
      obtain ⟨⟨k, k1, _⟩, _⟩ := hel e he
      have k1 : keyIs k e.2 = true := k1
      rw [nk_none hk] at k1
      exact (keyIs_none k k1).elim
/-- k in s, k a name or None -/
def rInN (P : Program) (w : World) (K : PySem.W.Frag) : R2 := fun x y H Q => rInU P w K x y H Q ∨ ∃ (a : Addr) (S : Key → Bool) (n : Nat), x = .non ∧ y = V.ref a ∧ H a = some (SetK P w a S n) ∧ Q (.bl false) H
theorem kx_inN {X : Cx} (K : PySem.W.Frag) (hK : X.K = K) (P : Program) (w : World) (hP : X.prog = P) (hw : X.w = w) (hu : X.A.units + 64 < cLine) : OpR X (compareOp .In) (rInN P w K) := by
  subst hP
  subst hw
  subst hK
  intro pins s σ H x y v u Q I rx ry h
  rcases h with h | ⟨a, S, n, rfl, rfl, ha, q⟩
  · exact op_inU hu pins s σ H x y v u Q I rx ry h
  · cases ry
    obtain rfl : v = Value.none := by cases rx; rfl
    exact wpAny_inSet_of (knd := noneKind X.prog X.w) (k := none) rfl rfl (setOf_none (setK_get I ha)) ⟨.bl false, H, I.tok _, rfl, q⟩
section
variable {Pg : Program} {w : World} {K : PySem.W.Frag} {m : Mem} {Q : D → Mem → Prop} {p : Addr}
theorem inN_or {x y : D} (h : OW K (rInU Pg w K) x y m Q) : OW K (rInN Pg w K) x y m Q := ow_or1 h
theorem inN_S {S : Key → Bool} {n : Nat} (hm : MAt m p (setC Pg w p S n)) (q : Q (.bl false) m) : OW K (rInN Pg w K) .non (.adr p) m Q := ow_or2 fun H v u M a b QQ k => by
  obtain ⟨i, hm⟩ := hm
  have h := M.get hm
  cases a
  cases b
  exact ⟨p, S, n, rfl, rfl, h, k _ m _ H q (Sub.refl _) M (.bl _)⟩
end
theorem kx_sortL {X : Cx} {scope : Scope} {j : Nat} {x : Str} {c P : Addr} {q : Str} {e : Expr} {te tb : TE} {params : Arguments} {body : Expr} {k : Nat} {p lpos kpos pos : Pos} (K : PySem.W.Frag) (hK : X.K = K)
    (hg : Gl X "sorted") (hm : X.mg "sorted" = none) (he : PE X e te) (TB : TabB X.base X.mg c P) (hcode : X.env.code = .ref c) (L : LamP X.env.scope scope X.N j x) (hr : Room (k + 3) X.A)
    (hdef : defaultsOf params X.env = ([], []))
    (hbind : ∀ (q : Str) (cl : List (Str × Addr)) (pm cv ctv u : Value), bindArgs (PySem.W.kla_fn "<lambda>" q params body scope cl pm cv ctv) ⟨[u], []⟩ = pure [(x, u)])
    (hbody : ∀ (A : Around) (s : Shared) (H : Hp) (f c' : Addr), Room k (A.deeper (lamEnv X scope s.heap.objs.size f c')) → PE (lamCx X A X.stack s H (fun _ _ _ => False) scope f c') body tb)
    (hq : X.env.qual ++ "<lambda>" = q) (hs : starEach [e] X.env = (false, eval e X.env) :: starEach [] X.env := by rfl) :
    PE X (.Call (.Name "sorted" p) [e] [⟨some "key", .Lambda params body scope lpos, kpos⟩] pos) (tSrtL K P q j te tb) := by
  subst hK
  exact pe_sortL hg hm he TB hcode L hr hdef hbind hbody hq hs
/-! ### a list, as data or as a cell, or a tuple -/
def SeqT (m : Mem) (x : D) (ds : List D) : Prop := SeqIn m x ds ∨ x = .tup ds
theorem SeqT.app {m r : Mem} {x : D} {ds : List D} (h : SeqT m x ds) : SeqT (m ++ r) x ds := h.imp SeqIn.app id
theorem SeqT.of {m : Mem} {ds : List D} : SeqT m (.lst ds) ds := .inl .of
theorem SeqIn.cons {m : Mem} {c : Addr × Cell} {x : D} {ds : List D} (h : SeqIn m x ds) : SeqIn (c :: m) x ds := h.imp id fun ⟨p, e, h⟩ => ⟨p, e, h.cons⟩
section
variable {K : PySem.W.Frag} {δ : List (Option D)} {m : Mem} {Q : D → Mem → Prop} {te tl : TE} {P : Ps} {R : XS} {t : TS} {u : WX → TS} {g : TG}
theorem cT_list {x : D} {ds : List D} (h : SeqT m x ds) (q : Q (.lst ds) m) : CW K (rListU K) [x] m Q := by
  rcases h with h | rfl
  · exact cq_list h q
  · exact cw_listT q
theorem swx_forA (h : EW K tl δ m fun x m1 => ∃ (α : Type) (xs : List α) (f : α → D), SeqT m1 x (xs.map f) ∧ ∃ Iv : Nat → List (Option D) → Mem → Prop, Iv 0 δ m1 ∧ (∀ (j : Nat) (δ' : List (Option D)) (m' : Mem), Iv j δ' m' → SeqT m' x (xs.map f)) ∧
      (∀ (j : Nat) (y : α) (δ' : List (Option D)) (m' : Mem), xs[j]? = some y → Iv j δ' m' → GW K g (f y) δ' m' fun δ2 m2 => SWX K u R δ2 m2 { nx := Iv (j + 1), ct := Iv (j + 1), bk := P.nx, rt := P.rt }) ∧
      (∀ (δ' : List (Option D)) (m' : Mem), Iv xs.length δ' m' → P.nx δ' m')) : SWX K (fun W => tFor (iAny K tl) g (u W)) R δ m P := fun σ H s M E k W kx =>
  h σ H s M _ fun x m1 v H1 ⟨α, xs, f, hx, Iv, h0, hsq, hs, hd⟩ s1 M1 r1 => by
    have turn : ∀ (i : Nat) (δ' : List (Option D)) (m' : Mem) (σ' : L2.St) (H' : Hp) (vi : V) (hlt : i < xs.length), Iv i δ' m' → Sub (hide m1 H1) (hide m' H') → Sl K (hide m' H') σ' δ' → MemOk K m' H' → Rd K (hide m' H') vi (f xs[i]) →
        g vi σ' H' fun σ2 H2 => u W { E with nx := fun σ3 H3 => ∃ δ3 m3, Iv (i + 1) δ3 m3 ∧ Sub (hide m1 H1) (hide m3 H3) ∧ Sl K (hide m3 H3) σ3 δ3 ∧ MemOk K m3 H3, ct := fun σ3 H3 => ∃ δ3 m3, Iv (i + 1) δ3 m3 ∧ Sub (hide m1 H1) (hide m3 H3) ∧ Sl K (hide m3 H3) σ3 δ3 ∧ MemOk K m3 H3, bk := E.nx } σ2 H2 := by
      intro i δ' m' σ' H' vi hlt hI s2 S2 M2 r2
      refine hs i _ δ' m' (List.getElem?_eq_getElem hlt) hI σ' H' vi S2 M2 r2 _ fun δ4 m4 σ4 H4 q4 s4 S4 M4 => ?_
      have s34 : Sub (hide m1 H1) (hide m4 H4) := s2.trans s4
      refine q4 σ4 H4 S4 M4 _ ⟨?_, ?_, ?_, ?_⟩ W (kx.mono (s1.trans s34))
      · exact fun δ5 m5 σ5 H5 q5 s5 S5 M5 => ⟨δ5, m5, q5, s34.trans s5, S5, M5⟩
      · exact fun d m5 v H5 q5 s5 M5 r5 => k.rt d m5 v H5 q5 (s1.trans (s34.trans s5)) M5 r5
      · exact fun δ5 m5 σ5 H5 q5 s5 S5 M5 => k.nx δ5 m5 σ5 H5 q5 (s1.trans (s34.trans s5)) S5 M5
      · exact fun δ5 m5 σ5 H5 q5 s5 S5 M5 => ⟨δ5, m5, q5, s34.trans s5, S5, M5⟩
    rcases hx with hx | rfl
    · obtain ⟨a, ws, rfl, ea, ra⟩ := hx.get M1 r1
      refine .inl ⟨a, rfl, ⟨ws, SqL.of ea⟩, fun i n σ' H' => n = xs.length - i ∧ i ≤ xs.length ∧ ∃ δ' m', Iv i δ' m' ∧ Sub (hide m1 H1) (hide m' H') ∧ Sl K (hide m' H') σ' δ' ∧ MemOk K m' H', ⟨xs.length, rfl, Nat.zero_le _, δ, m1, h0, Sub.refl _, s.mono s1, M1⟩, ?_⟩
      rintro i n σ' H' ⟨rfl, hi, δ', m', hI, s2, S2, M2⟩
      have hq : SeqIn m' x (xs.map f) := by
        rcases hsq i δ' m' hI with z | z
        · exact z
        · rcases hx with e | ⟨p, e, _⟩ <;> rw [e] at z <;> cases z
      obtain ⟨a', ws', ev, ea', ra'⟩ := hq.get M2 (r1.mono s2)
      cases ev
      have lw : ws'.length = xs.length := by rw [ra'.length, List.length_map]
      by_cases hlt : i < xs.length
      · refine .inr ⟨⟨ws', ws'[i]'(by omega), SqL.of ea', by simp [lw, hlt]⟩, _, fun σ3 H3 q => ⟨xs.length - (i + 1), by omega, rfl, hlt, q⟩, fun x3 H3 y => ?_⟩
        obtain ⟨rfl, y⟩ := y
        obtain ⟨v', h1, h2⟩ := ra'.get (show (xs.map f)[i]? = some (f xs[i]) by rw [List.getElem?_map, List.getElem?_eq_getElem hlt]; rfl)
        have z := y ws' (SqL.of ea')
        rw [h1] at z
        cases z
        exact turn i δ' m' σ' _ _ hlt hI s2 S2 M2 h2
      · have e : i = xs.length := by omega
        subst e
        exact .inl ⟨⟨ws', SqL.of ea', by omega⟩, k.nx δ' m' σ' H' (hd δ' m' hI) (s1.trans s2) S2 M2⟩
    · obtain ⟨a, ws, rfl, ea, ra⟩ := tup_at r1
      have fe : Feeds K (Itt K a) (hide m1 H1) (xs.map f) := by
        cases r1 with
        | tup e r => exact feeds_tup e r
      refine .inr ⟨a, rfl, ⟨ws, ea⟩, fun i n σ' H' => n = xs.length - i ∧ i ≤ xs.length ∧ ∃ δ' m', Iv i δ' m' ∧ Sub (hide m1 H1) (hide m' H') ∧ Sl K (hide m' H') σ' δ' ∧ MemOk K m' H', ⟨xs.length, rfl, Nat.zero_le _, δ, m1, h0, Sub.refl _, s.mono s1, M1⟩, ?_⟩
      rintro i n σ' H' ⟨rfl, hi, δ', m', hI, s2, S2, M2⟩
      by_cases hlt : i < xs.length
      · refine .inr ⟨fe.go i m' H' s2 M2 (by rw [List.length_map]; exact hlt), _, fun σ3 H3 q => ⟨xs.length - (i + 1), by omega, rfl, hlt, q⟩, fun x3 H3 y => ?_⟩
        obtain ⟨s3, M3, r3⟩ := fe.yld i m' H' x3 H3 (f xs[i]) s2 M2 (by rw [List.getElem?_map, List.getElem?_eq_getElem hlt]; rfl) y
        exact turn i δ' m' σ' H3 x3 hlt hI (s2.trans s3) (S2.mono s3) M3 r3
      · have e : i = xs.length := by omega
        subst e
        have := fe.stop m' H' s2 M2
        rw [List.length_map] at this
        exact .inl ⟨this, k.nx δ' m' σ' H' (hd δ' m' hI) (s1.trans s2) S2 M2⟩
end
/-! ### the sorted list of some names -/
theorem leT_total (a b : List Nat) : leT a b ∨ leT b a := by
  unfold leT
  induction a generalizing b with
  | nil => exact .inl (by cases b <;> simp [ltCps])
  | cons x a ih =>
    cases b with
    | nil => exact .inr (by simp [ltCps])
    | cons y b =>
      simp only [ltCps, Bool.or_eq_false_iff, decide_eq_false_iff_not, Bool.and_eq_false_iff, beq_eq_false_iff_ne, ne_eq]
      rcases Nat.lt_trichotomy x y with h | h | h
      · exact .inl ⟨by omega, .inl (by omega)⟩
      · rcases ih b with z | z
        · exact .inl ⟨by omega, .inr z⟩
        · exact .inr ⟨by omega, .inr z⟩
      · exact .inr ⟨by omega, .inl (by omega)⟩
def srtS (ws : List Str) : List Str := ws.mergeSort fun a b => !ltCps b.cps.toList a.cps.toList
theorem srtS_perm (ws : List Str) : (srtS ws).Perm ws := List.mergeSort_perm _ _
theorem srtS_srt (ws : List Str) : SortS (srtS ws) := by
  have := List.pairwise_mergeSort (le := fun a b : Str => !ltCps b.cps.toList a.cps.toList) (fun a b c h1 h2 => ?_) (fun a b => ?_) ws
  · exact this.imp fun h => by unfold leT; simpa using h
  · have := leT_trans (a := a.cps.toList) (b := b.cps.toList) (c := c.cps.toList) (by unfold leT; simpa using h1) (by unfold leT; simpa using h2)
    unfold leT at this
    simpa using this
  · rcases leT_total a.cps.toList b.cps.toList with h | h
    · unfold leT at h
      simp [h]
    · unfold leT at h
      simp [h]
theorem srtS_of {ws ys : List Str} (p : ys.Perm ws) (s : SortS ys) : ys = srtS ws := s.uniq (srtS_srt ws) (p.trans (srtS_perm ws).symm)
theorem srtS_same {ws ys : List Str} (p : ys.Perm ws) : srtS ys = srtS ws := srtS_of ((srtS_perm ys).trans p) (srtS_srt ys)
section
variable {K : PySem.W.Frag} {m : Mem} {Q : D → Mem → Prop}
theorem cT_sort {x : D} {ws : List Str} (h : SeqT m x (ws.map .str)) (l : ws.length < 64) (q : Q (.lst ((srtS ws).map .str)) m) : CW K (rSortU K) [x] m Q := by
  rcases h with (rfl | ⟨p, rfl, hm⟩) | rfl
  · exact cw_sortL l fun ys p s => by rw [srtS_of p s]; exact q
  · refine cw_or1 fun H v M a QQ k => ?_
    obtain ⟨i, hm⟩ := hm
    cases a with
    | cons a b =>
      cases b
      cases a
      obtain ⟨xs, e, r⟩ := cell_at M hm
      have := r.strs_v
      subst this
      refine ⟨p, ws, rfl, SqL.of e, l, fun ys z pm so np => ?_⟩
      obtain ⟨M2, s2, r2⟩ := new_lst M (RdL.strs (K := K) (F := hide m H) (ns := ys)) np
      rw [srtS_of pm (sortedS_pw so)] at r2 s2 M2 ⊢
      exact k _ m _ _ q s2 M2 r2
  · exact cw_sortT l fun ys p s => by rw [srtS_of p s]; exact q
theorem cD_sort {x : D} {kvs : List (Key × D)} {ks : List Str} (h : DctIn m x kvs) (hk : kvs.map (·.1) = ks.map Sum.inr) (l : ks.length < 64) (q : Q (.lst ((srtS ks).map .str)) m) : CW K (rSortU K) [x] m Q := by
  refine cw_or2 (cw_or1 fun H v M a QQ k => ?_)
  cases a with
  | cons a b =>
    cases b
    obtain ⟨p, xs, rfl, e, n, r⟩ := h.get M a
    refine ⟨p, xs, ks, rfl, .inl e, n.trans hk, l, fun ys z pm so np => ?_⟩
    obtain ⟨M2, s2, r2⟩ := new_lst M (RdL.strs (K := K) (F := hide m H) (ns := ys)) np
    rw [srtS_of pm (sortedS_pw so)] at r2 s2 M2 ⊢
    exact k _ m _ _ q s2 M2 r2
/-- d[k] of a dict, as data or as a cell -/
theorem oD_ix {x : D} {kvs : List (Key × D)} {w : Str} {d : D} (h : DctIn m x kvs) (e : valD kvs (.inr w) = some d) (q : Q d m) : OW K (rIxU K) x (.str w) m Q := fun H v u M a b QQ k => by
  obtain ⟨p, xs, rfl, e1, n, r⟩ := h.get M a
  cases b
  obtain ⟨z, h1, h2⟩ := (RdL.valV (.inr w) n r).1 d e
  exact .inr (.inr (.inr ⟨p, z, rfl, .inl ⟨xs, .inr w, .inl e1, rfl, h1.symm⟩, k d m z H q (Sub.refl _) M h2⟩))
end
/-! ### cells that nobody needs any more -/
/-- m1 is m with some cells more -/
def Gb (m m1 : Mem) : Prop := ∃ G : Mem, m1.Perm (m ++ G)
theorem Gb.refl {m : Mem} : Gb m m := ⟨[], by rw [List.append_nil]⟩
theorem Gb.app {m m1 r : Mem} (h : Gb m m1) : Gb m (m1 ++ r) := let ⟨G, h⟩ := h; ⟨G ++ r, by rw [← List.append_assoc]; exact h.append_right r⟩
theorem Gb.cons {m m1 : Mem} {x : Addr × Cell} (h : Gb m m1) : Gb (x :: m) (x :: m1) := let ⟨G, h⟩ := h; ⟨G, h.cons x⟩
theorem Gb.snoc {m m1 : Mem} {x : Addr × Cell} (h : Gb m m1) : Gb (m ++ [x]) (m1 ++ [x]) := let ⟨G, h⟩ := h; ⟨G, by
  refine (h.append_right [x]).trans ?_
  rw [List.append_assoc, List.append_assoc]
  exact List.Perm.append_left m List.perm_append_comm⟩
theorem Gb.perm {m m1 m2 : Mem} (h : Gb m m1) (p : m2.Perm m1) : Gb m m2 := let ⟨G, h⟩ := h; ⟨G, p.trans h⟩
theorem Gb.of {m m1 : Mem} (p : m1.Perm m) : Gb m m1 := Gb.refl.perm p
theorem Gb.trans {m m1 m2 : Mem} (h : Gb m m1) (h' : Gb m1 m2) : Gb m m2 := let ⟨G, h⟩ := h; let ⟨G', h'⟩ := h'; ⟨G ++ G', by rw [← List.append_assoc]; exact h'.trans (h.append_right G')⟩
theorem Gb.drop {m m1 : Mem} {x : Addr × Cell} (h : Gb m m1) : Gb m (x :: m1) := let ⟨G, h⟩ := h; ⟨x :: G, (h.cons x).trans List.perm_middle.symm⟩
section
variable {K : PySem.W.Frag} {H : Hp} {δ : List (Option D)} {m : Mem} {P : Ps} {R : XS} {t : TS} {u : WX → TS} {te : TE} {tt : TT} {Q : D → Mem → Prop}
theorem MemOk.dropG : ∀ (G : Mem) {m : Mem}, MemOk K (m ++ G) H → MemOk K m H ∧ Sub (hide (m ++ G) H) (hide m H)
  | [], m, M => by
    rw [List.append_nil] at M ⊢
    exact ⟨M, Sub.refl _⟩
  | x :: G, m, M => by
    have e : m ++ x :: G = (m ++ [x]) ++ G := by simp
    rw [e] at M ⊢
    obtain ⟨M1, s1⟩ := dropG G M
    obtain ⟨M2, s2, _⟩ := M1.drop (p := x.1) (c := x.2)
    exact ⟨M2, s1.trans s2⟩
theorem MemOk.gb {m1 : Mem} (M : MemOk K m1 H) (g : Gb m m1) : MemOk K m H ∧ Sub (hide m1 H) (hide m H) := by
  obtain ⟨G, p⟩ := g
  have := MemOk.dropG G (M.perm p)
  rw [← hide_perm p] at this
  exact this
theorem sw_free (h : SW K t δ m { nx := fun δ' m1 => ∃ m2, Gb m2 m1 ∧ P.nx δ' m2, rt := fun d m1 => ∃ m2, Gb m2 m1 ∧ P.rt d m2, bk := fun δ' m1 => ∃ m2, Gb m2 m1 ∧ P.bk δ' m2, ct := fun δ' m1 => ∃ m2, Gb m2 m1 ∧ P.ct δ' m2 }) : SW K t δ m P := fun σ H s M E k =>
  h σ H s M E ⟨fun δ' m' σ' H' ⟨m2, g, q⟩ s1 S1 M1 => let ⟨M2, s2⟩ := M1.gb g; k.nx δ' m2 σ' H' q (s1.trans s2) (S1.mono s2) M2, fun d m' v H' ⟨m2, g, q⟩ s1 M1 r1 => let ⟨M2, s2⟩ := M1.gb g; k.rt d m2 v H' q (s1.trans s2) M2 (r1.mono s2),
    fun δ' m' σ' H' ⟨m2, g, q⟩ s1 S1 M1 => let ⟨M2, s2⟩ := M1.gb g; k.bk δ' m2 σ' H' q (s1.trans s2) (S1.mono s2) M2, fun δ' m' σ' H' ⟨m2, g, q⟩ s1 S1 M1 => let ⟨M2, s2⟩ := M1.gb g; k.ct δ' m2 σ' H' q (s1.trans s2) (S1.mono s2) M2⟩
theorem swx_free (h : SWX K u (fun δ' C x m1 => ∃ m2, Gb m2 m1 ∧ R δ' C x m2) δ m { nx := fun δ' m1 => ∃ m2, Gb m2 m1 ∧ P.nx δ' m2, rt := fun d m1 => ∃ m2, Gb m2 m1 ∧ P.rt d m2, bk := fun δ' m1 => ∃ m2, Gb m2 m1 ∧ P.bk δ' m2, ct := fun δ' m1 => ∃ m2, Gb m2 m1 ∧ P.ct δ' m2 }) : SWX K u R δ m P := fun σ H s M E k W kx =>
  h σ H s M E ⟨fun δ' m' σ' H' ⟨m2, g, q⟩ s1 S1 M1 => let ⟨M2, s2⟩ := M1.gb g; k.nx δ' m2 σ' H' q (s1.trans s2) (S1.mono s2) M2, fun d m' v H' ⟨m2, g, q⟩ s1 M1 r1 => let ⟨M2, s2⟩ := M1.gb g; k.rt d m2 v H' q (s1.trans s2) M2 (r1.mono s2),
    fun δ' m' σ' H' ⟨m2, g, q⟩ s1 S1 M1 => let ⟨M2, s2⟩ := M1.gb g; k.bk δ' m2 σ' H' q (s1.trans s2) (S1.mono s2) M2, fun δ' m' σ' H' ⟨m2, g, q⟩ s1 S1 M1 => let ⟨M2, s2⟩ := M1.gb g; k.ct δ' m2 σ' H' q (s1.trans s2) (S1.mono s2) M2⟩ W
    fun δ' C x m' dd σ' H' ⟨m2, g, q⟩ s1 S1 M1 => let ⟨M2, s2⟩ := M1.gb g.snoc; kx δ' C x m2 dd σ' H' q (s1.trans s2) (S1.mono s2) M2
theorem ew_free (h : EW K te δ m fun d m1 => ∃ m2, Gb m2 m1 ∧ Q d m2) : EW K te δ m Q := fun σ H s M QQ k =>
  h σ H s M _ fun d m1 v H1 ⟨m2, g, q⟩ s1 M1 r1 => let ⟨M2, s2⟩ := M1.gb g; k d m2 v H1 q (s1.trans s2) M2 (r1.mono s2)
/-- a cell, wherever it stands, is data from now on -/
theorem ew_data (h : EW K te δ m fun x m1 => ∃ p c d m2, x = .adr p ∧ m1.Perm (m2 ++ [(p, c)]) ∧ c.d = some d ∧ Q d m2) : EW K te δ m Q :=
  ew_still (ew_perm (h.imp fun x m1 ⟨p, c, d, m2, e1, e2, e3, q⟩ => ⟨_, e2, p, c, d, m2, e1, rfl, e3, q⟩))
theorem sw_J (J : List (Option D) → Mem → Prop) (h : SW K t δ m { P with nx := J }) (n : ∀ δ' m', J δ' m' → P.nx δ' m') : SW K t δ m P := sw_mid h n (fun _ _ q => q) (fun _ _ q => q) (fun _ _ q => q)
theorem swx_J (J : List (Option D) → Mem → Prop) (h : SWX K u R δ m { P with nx := J }) (n : ∀ δ' m', J δ' m' → P.nx δ' m') : SWX K u R δ m P := swx_mid h n (fun _ _ q => q) (fun _ _ q => q) (fun _ _ q => q)
theorem swx_ifJ {v : WX → TS} (J : List (Option D) → Mem → Prop) (h : TW K tt δ m fun b m1 => if b = true then SWX K u R δ m1 { P with nx := J } else SWX K v R δ m1 { P with nx := J }) (n : ∀ δ' m', J δ' m' → P.nx δ' m') : SWX K (fun W => tIfS tt (u W) (v W)) R δ m P :=
  swx_mid (swx_if h) n (fun _ _ q => q) (fun _ _ q => q) (fun _ _ q => q)
theorem swx_seqJ {v : WX → TS} (J : List (Option D) → Mem → Prop) (h : SWX K u R δ m { P with nx := J }) (n : ∀ δ' m', J δ' m' → SWX K v R δ' m' P) : SWX K (fun W => tSeq (u W) (v W)) R δ m P :=
  swx_seq (swx_mid h n (fun _ _ q => q) (fun _ _ q => q) (fun _ _ q => q))
theorem sw_seqJ {t u : TS} {R : Ps} (J : List (Option D) → Mem → Prop) (h : SW K t δ m { R with nx := J }) (n : ∀ δ' m', J δ' m' → SW K u δ' m' R) : SW K (tSeq t u) δ m R :=
  sw_seq (sw_mid h n (fun _ _ q => q) (fun _ _ q => q) (fun _ _ q => q))
end
/-! ### displays by their number of items -/
section
variable {K : PySem.W.Frag} {δ : List (Option D)} {m : Mem} {Q : D → Mem → Prop}
theorem ew_tup1 {t0 : TE} (h0 : EW K t0 δ m fun x0 m1 => Q (.tup [x0]) m1) : EW K (tTup (tCons t0 tNil)) δ m Q := ew_tup (aw_cons (EW.imp h0 fun x0 m1 h1 => aw_nil ⟨Nat.le_of_ble_eq_true rfl, h1⟩))
theorem ew_tup2 {t0 t1 : TE} (h0 : EW K t0 δ m fun x0 m1 => EW K t1 δ m1 fun x1 m2 => Q (.tup [x0, x1]) m2) : EW K (tTup (tCons t0 (tCons t1 tNil))) δ m Q := ew_tup (aw_cons (EW.imp h0 fun x0 m1 h1 => aw_cons (EW.imp h1 fun x1 m2 h2 => aw_nil ⟨Nat.le_of_ble_eq_true rfl, h2⟩)))
theorem ew_tup3 {t0 t1 t2 : TE} (h0 : EW K t0 δ m fun x0 m1 => EW K t1 δ m1 fun x1 m2 => EW K t2 δ m2 fun x2 m3 => Q (.tup [x0, x1, x2]) m3) : EW K (tTup (tCons t0 (tCons t1 (tCons t2 tNil)))) δ m Q := ew_tup (aw_cons (EW.imp h0 fun x0 m1 h1 => aw_cons (EW.imp h1 fun x1 m2 h2 => aw_cons (EW.imp h2 fun x2 m3 h3 => aw_nil ⟨Nat.le_of_ble_eq_true rfl, h3⟩))))
theorem ew_tup4 {t0 t1 t2 t3 : TE} (h0 : EW K t0 δ m fun x0 m1 => EW K t1 δ m1 fun x1 m2 => EW K t2 δ m2 fun x2 m3 => EW K t3 δ m3 fun x3 m4 => Q (.tup [x0, x1, x2, x3]) m4) : EW K (tTup (tCons t0 (tCons t1 (tCons t2 (tCons t3 tNil))))) δ m Q := ew_tup (aw_cons (EW.imp h0 fun x0 m1 h1 => aw_cons (EW.imp h1 fun x1 m2 h2 => aw_cons (EW.imp h2 fun x2 m3 h3 => aw_cons (EW.imp h3 fun x3 m4 h4 => aw_nil ⟨Nat.le_of_ble_eq_true rfl, h4⟩)))))
theorem ew_tup5 {t0 t1 t2 t3 t4 : TE} (h0 : EW K t0 δ m fun x0 m1 => EW K t1 δ m1 fun x1 m2 => EW K t2 δ m2 fun x2 m3 => EW K t3 δ m3 fun x3 m4 => EW K t4 δ m4 fun x4 m5 => Q (.tup [x0, x1, x2, x3, x4]) m5) : EW K (tTup (tCons t0 (tCons t1 (tCons t2 (tCons t3 (tCons t4 tNil)))))) δ m Q := ew_tup (aw_cons (EW.imp h0 fun x0 m1 h1 => aw_cons (EW.imp h1 fun x1 m2 h2 => aw_cons (EW.imp h2 fun x2 m3 h3 => aw_cons (EW.imp h3 fun x3 m4 h4 => aw_cons (EW.imp h4 fun x4 m5 h5 => aw_nil ⟨Nat.le_of_ble_eq_true rfl, h5⟩))))))
theorem ew_tup6 {t0 t1 t2 t3 t4 t5 : TE} (h0 : EW K t0 δ m fun x0 m1 => EW K t1 δ m1 fun x1 m2 => EW K t2 δ m2 fun x2 m3 => EW K t3 δ m3 fun x3 m4 => EW K t4 δ m4 fun x4 m5 => EW K t5 δ m5 fun x5 m6 => Q (.tup [x0, x1, x2, x3, x4, x5]) m6) : EW K (tTup (tCons t0 (tCons t1 (tCons t2 (tCons t3 (tCons t4 (tCons t5 tNil))))))) δ m Q := ew_tup (aw_cons (EW.imp h0 fun x0 m1 h1 => aw_cons (EW.imp h1 fun x1 m2 h2 => aw_cons (EW.imp h2 fun x2 m3 h3 => aw_cons (EW.imp h3 fun x3 m4 h4 => aw_cons (EW.imp h4 fun x4 m5 h5 => aw_cons (EW.imp h5 fun x5 m6 h6 => aw_nil ⟨Nat.le_of_ble_eq_true rfl, h6⟩)))))))
theorem ew_tup7 {t0 t1 t2 t3 t4 t5 t6 : TE} (h0 : EW K t0 δ m fun x0 m1 => EW K t1 δ m1 fun x1 m2 => EW K t2 δ m2 fun x2 m3 => EW K t3 δ m3 fun x3 m4 => EW K t4 δ m4 fun x4 m5 => EW K t5 δ m5 fun x5 m6 => EW K t6 δ m6 fun x6 m7 => Q (.tup [x0, x1, x2, x3, x4, x5, x6]) m7) : EW K (tTup (tCons t0 (tCons t1 (tCons t2 (tCons t3 (tCons t4 (tCons t5 (tCons t6 tNil)))))))) δ m Q := ew_tup (aw_cons (EW.imp h0 fun x0 m1 h1 => aw_cons (EW.imp h1 fun x1 m2 h2 => aw_cons (EW.imp h2 fun x2 m3 h3 => aw_cons (EW.imp h3 fun x3 m4 h4 => aw_cons (EW.imp h4 fun x4 m5 h5 => aw_cons (EW.imp h5 fun x5 m6 h6 => aw_cons (EW.imp h6 fun x6 m7 h7 => aw_nil ⟨Nat.le_of_ble_eq_true rfl, h7⟩))))))))
theorem ew_tup8 {t0 t1 t2 t3 t4 t5 t6 t7 : TE} (h0 : EW K t0 δ m fun x0 m1 => EW K t1 δ m1 fun x1 m2 => EW K t2 δ m2 fun x2 m3 => EW K t3 δ m3 fun x3 m4 => EW K t4 δ m4 fun x4 m5 => EW K t5 δ m5 fun x5 m6 => EW K t6 δ m6 fun x6 m7 => EW K t7 δ m7 fun x7 m8 => Q (.tup [x0, x1, x2, x3, x4, x5, x6, x7]) m8) : EW K (tTup (tCons t0 (tCons t1 (tCons t2 (tCons t3 (tCons t4 (tCons t5 (tCons t6 (tCons t7 tNil))))))))) δ m Q := ew_tup (aw_cons (EW.imp h0 fun x0 m1 h1 => aw_cons (EW.imp h1 fun x1 m2 h2 => aw_cons (EW.imp h2 fun x2 m3 h3 => aw_cons (EW.imp h3 fun x3 m4 h4 => aw_cons (EW.imp h4 fun x4 m5 h5 => aw_cons (EW.imp h5 fun x5 m6 h6 => aw_cons (EW.imp h6 fun x6 m7 h7 => aw_cons (EW.imp h7 fun x7 m8 h8 => aw_nil ⟨Nat.le_of_ble_eq_true rfl, h8⟩)))))))))
theorem ew_l0 (h0 : Q (.lst []) m) : EW K (tLst tNil) δ m Q := ew_lst (aw_nil ⟨Nat.le_of_ble_eq_true rfl, h0⟩)
theorem ew_l1 {t0 : TE} (h0 : EW K t0 δ m fun x0 m1 => Q (.lst [x0]) m1) : EW K (tLst (tCons t0 tNil)) δ m Q := ew_lst (aw_cons (EW.imp h0 fun x0 m1 h1 => aw_nil ⟨Nat.le_of_ble_eq_true rfl, h1⟩))
theorem ew_l2 {t0 t1 : TE} (h0 : EW K t0 δ m fun x0 m1 => EW K t1 δ m1 fun x1 m2 => Q (.lst [x0, x1]) m2) : EW K (tLst (tCons t0 (tCons t1 tNil))) δ m Q := ew_lst (aw_cons (EW.imp h0 fun x0 m1 h1 => aw_cons (EW.imp h1 fun x1 m2 h2 => aw_nil ⟨Nat.le_of_ble_eq_true rfl, h2⟩)))
theorem ew_l3 {t0 t1 t2 : TE} (h0 : EW K t0 δ m fun x0 m1 => EW K t1 δ m1 fun x1 m2 => EW K t2 δ m2 fun x2 m3 => Q (.lst [x0, x1, x2]) m3) : EW K (tLst (tCons t0 (tCons t1 (tCons t2 tNil)))) δ m Q := ew_lst (aw_cons (EW.imp h0 fun x0 m1 h1 => aw_cons (EW.imp h1 fun x1 m2 h2 => aw_cons (EW.imp h2 fun x2 m3 h3 => aw_nil ⟨Nat.le_of_ble_eq_true rfl, h3⟩))))
theorem ew_l4 {t0 t1 t2 t3 : TE} (h0 : EW K t0 δ m fun x0 m1 => EW K t1 δ m1 fun x1 m2 => EW K t2 δ m2 fun x2 m3 => EW K t3 δ m3 fun x3 m4 => Q (.lst [x0, x1, x2, x3]) m4) : EW K (tLst (tCons t0 (tCons t1 (tCons t2 (tCons t3 tNil))))) δ m Q := ew_lst (aw_cons (EW.imp h0 fun x0 m1 h1 => aw_cons (EW.imp h1 fun x1 m2 h2 => aw_cons (EW.imp h2 fun x2 m3 h3 => aw_cons (EW.imp h3 fun x3 m4 h4 => aw_nil ⟨Nat.le_of_ble_eq_true rfl, h4⟩)))))
theorem ew_l5 {t0 t1 t2 t3 t4 : TE} (h0 : EW K t0 δ m fun x0 m1 => EW K t1 δ m1 fun x1 m2 => EW K t2 δ m2 fun x2 m3 => EW K t3 δ m3 fun x3 m4 => EW K t4 δ m4 fun x4 m5 => Q (.lst [x0, x1, x2, x3, x4]) m5) : EW K (tLst (tCons t0 (tCons t1 (tCons t2 (tCons t3 (tCons t4 tNil)))))) δ m Q := ew_lst (aw_cons (EW.imp h0 fun x0 m1 h1 => aw_cons (EW.imp h1 fun x1 m2 h2 => aw_cons (EW.imp h2 fun x2 m3 h3 => aw_cons (EW.imp h3 fun x3 m4 h4 => aw_cons (EW.imp h4 fun x4 m5 h5 => aw_nil ⟨Nat.le_of_ble_eq_true rfl, h5⟩))))))
theorem ew_l6 {t0 t1 t2 t3 t4 t5 : TE} (h0 : EW K t0 δ m fun x0 m1 => EW K t1 δ m1 fun x1 m2 => EW K t2 δ m2 fun x2 m3 => EW K t3 δ m3 fun x3 m4 => EW K t4 δ m4 fun x4 m5 => EW K t5 δ m5 fun x5 m6 => Q (.lst [x0, x1, x2, x3, x4, x5]) m6) : EW K (tLst (tCons t0 (tCons t1 (tCons t2 (tCons t3 (tCons t4 (tCons t5 tNil))))))) δ m Q := ew_lst (aw_cons (EW.imp h0 fun x0 m1 h1 => aw_cons (EW.imp h1 fun x1 m2 h2 => aw_cons (EW.imp h2 fun x2 m3 h3 => aw_cons (EW.imp h3 fun x3 m4 h4 => aw_cons (EW.imp h4 fun x4 m5 h5 => aw_cons (EW.imp h5 fun x5 m6 h6 => aw_nil ⟨Nat.le_of_ble_eq_true rfl, h6⟩)))))))
theorem ew_l7 {t0 t1 t2 t3 t4 t5 t6 : TE} (h0 : EW K t0 δ m fun x0 m1 => EW K t1 δ m1 fun x1 m2 => EW K t2 δ m2 fun x2 m3 => EW K t3 δ m3 fun x3 m4 => EW K t4 δ m4 fun x4 m5 => EW K t5 δ m5 fun x5 m6 => EW K t6 δ m6 fun x6 m7 => Q (.lst [x0, x1, x2, x3, x4, x5, x6]) m7) : EW K (tLst (tCons t0 (tCons t1 (tCons t2 (tCons t3 (tCons t4 (tCons t5 (tCons t6 tNil)))))))) δ m Q := ew_lst (aw_cons (EW.imp h0 fun x0 m1 h1 => aw_cons (EW.imp h1 fun x1 m2 h2 => aw_cons (EW.imp h2 fun x2 m3 h3 => aw_cons (EW.imp h3 fun x3 m4 h4 => aw_cons (EW.imp h4 fun x4 m5 h5 => aw_cons (EW.imp h5 fun x5 m6 h6 => aw_cons (EW.imp h6 fun x6 m7 h7 => aw_nil ⟨Nat.le_of_ble_eq_true rfl, h7⟩))))))))
theorem ew_l8 {t0 t1 t2 t3 t4 t5 t6 t7 : TE} (h0 : EW K t0 δ m fun x0 m1 => EW K t1 δ m1 fun x1 m2 => EW K t2 δ m2 fun x2 m3 => EW K t3 δ m3 fun x3 m4 => EW K t4 δ m4 fun x4 m5 => EW K t5 δ m5 fun x5 m6 => EW K t6 δ m6 fun x6 m7 => EW K t7 δ m7 fun x7 m8 => Q (.lst [x0, x1, x2, x3, x4, x5, x6, x7]) m8) : EW K (tLst (tCons t0 (tCons t1 (tCons t2 (tCons t3 (tCons t4 (tCons t5 (tCons t6 (tCons t7 tNil))))))))) δ m Q := ew_lst (aw_cons (EW.imp h0 fun x0 m1 h1 => aw_cons (EW.imp h1 fun x1 m2 h2 => aw_cons (EW.imp h2 fun x2 m3 h3 => aw_cons (EW.imp h3 fun x3 m4 h4 => aw_cons (EW.imp h4 fun x4 m5 h5 => aw_cons (EW.imp h5 fun x5 m6 h6 => aw_cons (EW.imp h6 fun x6 m7 h7 => aw_cons (EW.imp h7 fun x7 m8 h8 => aw_nil ⟨Nat.le_of_ble_eq_true rfl, h8⟩)))))))))
theorem ew_l9 {t0 t1 t2 t3 t4 t5 t6 t7 t8 : TE} (h0 : EW K t0 δ m fun x0 m1 => EW K t1 δ m1 fun x1 m2 => EW K t2 δ m2 fun x2 m3 => EW K t3 δ m3 fun x3 m4 => EW K t4 δ m4 fun x4 m5 => EW K t5 δ m5 fun x5 m6 => EW K t6 δ m6 fun x6 m7 => EW K t7 δ m7 fun x7 m8 => EW K t8 δ m8 fun x8 m9 => Q (.lst [x0, x1, x2, x3, x4, x5, x6, x7, x8]) m9) : EW K (tLst (tCons t0 (tCons t1 (tCons t2 (tCons t3 (tCons t4 (tCons t5 (tCons t6 (tCons t7 (tCons t8 tNil)))))))))) δ m Q := ew_lst (aw_cons (EW.imp h0 fun x0 m1 h1 => aw_cons (EW.imp h1 fun x1 m2 h2 => aw_cons (EW.imp h2 fun x2 m3 h3 => aw_cons (EW.imp h3 fun x3 m4 h4 => aw_cons (EW.imp h4 fun x4 m5 h5 => aw_cons (EW.imp h5 fun x5 m6 h6 => aw_cons (EW.imp h6 fun x6 m7 h7 => aw_cons (EW.imp h7 fun x7 m8 h8 => aw_cons (EW.imp h8 fun x8 m9 h9 => aw_nil ⟨Nat.le_of_ble_eq_true rfl, h9⟩))))))))))
theorem ew_l10 {t0 t1 t2 t3 t4 t5 t6 t7 t8 t9 : TE} (h0 : EW K t0 δ m fun x0 m1 => EW K t1 δ m1 fun x1 m2 => EW K t2 δ m2 fun x2 m3 => EW K t3 δ m3 fun x3 m4 => EW K t4 δ m4 fun x4 m5 => EW K t5 δ m5 fun x5 m6 => EW K t6 δ m6 fun x6 m7 => EW K t7 δ m7 fun x7 m8 => EW K t8 δ m8 fun x8 m9 => EW K t9 δ m9 fun x9 m10 => Q (.lst [x0, x1, x2, x3, x4, x5, x6, x7, x8, x9]) m10) : EW K (tLst (tCons t0 (tCons t1 (tCons t2 (tCons t3 (tCons t4 (tCons t5 (tCons t6 (tCons t7 (tCons t8 (tCons t9 tNil))))))))))) δ m Q := ew_lst (aw_cons (EW.imp h0 fun x0 m1 h1 => aw_cons (EW.imp h1 fun x1 m2 h2 => aw_cons (EW.imp h2 fun x2 m3 h3 => aw_cons (EW.imp h3 fun x3 m4 h4 => aw_cons (EW.imp h4 fun x4 m5 h5 => aw_cons (EW.imp h5 fun x5 m6 h6 => aw_cons (EW.imp h6 fun x6 m7 h7 => aw_cons (EW.imp h7 fun x7 m8 h8 => aw_cons (EW.imp h8 fun x8 m9 h9 => aw_cons (EW.imp h9 fun x9 m10 h10 => aw_nil ⟨Nat.le_of_ble_eq_true rfl, h10⟩)))))))))))
theorem ew_l11 {t0 t1 t2 t3 t4 t5 t6 t7 t8 t9 t10 : TE} (h0 : EW K t0 δ m fun x0 m1 => EW K t1 δ m1 fun x1 m2 => EW K t2 δ m2 fun x2 m3 => EW K t3 δ m3 fun x3 m4 => EW K t4 δ m4 fun x4 m5 => EW K t5 δ m5 fun x5 m6 => EW K t6 δ m6 fun x6 m7 => EW K t7 δ m7 fun x7 m8 => EW K t8 δ m8 fun x8 m9 => EW K t9 δ m9 fun x9 m10 => EW K t10 δ m10 fun x10 m11 => Q (.lst [x0, x1, x2, x3, x4, x5, x6, x7, x8, x9, x10]) m11) : EW K (tLst (tCons t0 (tCons t1 (tCons t2 (tCons t3 (tCons t4 (tCons t5 (tCons t6 (tCons t7 (tCons t8 (tCons t9 (tCons t10 tNil)))))))))))) δ m Q := ew_lst (aw_cons (EW.imp h0 fun x0 m1 h1 => aw_cons (EW.imp h1 fun x1 m2 h2 => aw_cons (EW.imp h2 fun x2 m3 h3 => aw_cons (EW.imp h3 fun x3 m4 h4 => aw_cons (EW.imp h4 fun x4 m5 h5 => aw_cons (EW.imp h5 fun x5 m6 h6 => aw_cons (EW.imp h6 fun x6 m7 h7 => aw_cons (EW.imp h7 fun x7 m8 h8 => aw_cons (EW.imp h8 fun x8 m9 h9 => aw_cons (EW.imp h9 fun x9 m10 h10 => aw_cons (EW.imp h10 fun x10 m11 h11 => aw_nil ⟨Nat.le_of_ble_eq_true rfl, h11⟩))))))))))))
theorem ew_l12 {t0 t1 t2 t3 t4 t5 t6 t7 t8 t9 t10 t11 : TE} (h0 : EW K t0 δ m fun x0 m1 => EW K t1 δ m1 fun x1 m2 => EW K t2 δ m2 fun x2 m3 => EW K t3 δ m3 fun x3 m4 => EW K t4 δ m4 fun x4 m5 => EW K t5 δ m5 fun x5 m6 => EW K t6 δ m6 fun x6 m7 => EW K t7 δ m7 fun x7 m8 => EW K t8 δ m8 fun x8 m9 => EW K t9 δ m9 fun x9 m10 => EW K t10 δ m10 fun x10 m11 => EW K t11 δ m11 fun x11 m12 => Q (.lst [x0, x1, x2, x3, x4, x5, x6, x7, x8, x9, x10, x11]) m12) : EW K (tLst (tCons t0 (tCons t1 (tCons t2 (tCons t3 (tCons t4 (tCons t5 (tCons t6 (tCons t7 (tCons t8 (tCons t9 (tCons t10 (tCons t11 tNil))))))))))))) δ m Q := ew_lst (aw_cons (EW.imp h0 fun x0 m1 h1 => aw_cons (EW.imp h1 fun x1 m2 h2 => aw_cons (EW.imp h2 fun x2 m3 h3 => aw_cons (EW.imp h3 fun x3 m4 h4 => aw_cons (EW.imp h4 fun x4 m5 h5 => aw_cons (EW.imp h5 fun x5 m6 h6 => aw_cons (EW.imp h6 fun x6 m7 h7 => aw_cons (EW.imp h7 fun x7 m8 h8 => aw_cons (EW.imp h8 fun x8 m9 h9 => aw_cons (EW.imp h9 fun x9 m10 h10 => aw_cons (EW.imp h10 fun x10 m11 h11 => aw_cons (EW.imp h11 fun x11 m12 h12 => aw_nil ⟨Nat.le_of_ble_eq_true rfl, h12⟩)))))))))))))
theorem ew_l13 {t0 t1 t2 t3 t4 t5 t6 t7 t8 t9 t10 t11 t12 : TE} (h0 : EW K t0 δ m fun x0 m1 => EW K t1 δ m1 fun x1 m2 => EW K t2 δ m2 fun x2 m3 => EW K t3 δ m3 fun x3 m4 => EW K t4 δ m4 fun x4 m5 => EW K t5 δ m5 fun x5 m6 => EW K t6 δ m6 fun x6 m7 => EW K t7 δ m7 fun x7 m8 => EW K t8 δ m8 fun x8 m9 => EW K t9 δ m9 fun x9 m10 => EW K t10 δ m10 fun x10 m11 => EW K t11 δ m11 fun x11 m12 => EW K t12 δ m12 fun x12 m13 => Q (.lst [x0, x1, x2, x3, x4, x5, x6, x7, x8, x9, x10, x11, x12]) m13) : EW K (tLst (tCons t0 (tCons t1 (tCons t2 (tCons t3 (tCons t4 (tCons t5 (tCons t6 (tCons t7 (tCons t8 (tCons t9 (tCons t10 (tCons t11 (tCons t12 tNil)))))))))))))) δ m Q := ew_lst (aw_cons (EW.imp h0 fun x0 m1 h1 => aw_cons (EW.imp h1 fun x1 m2 h2 => aw_cons (EW.imp h2 fun x2 m3 h3 => aw_cons (EW.imp h3 fun x3 m4 h4 => aw_cons (EW.imp h4 fun x4 m5 h5 => aw_cons (EW.imp h5 fun x5 m6 h6 => aw_cons (EW.imp h6 fun x6 m7 h7 => aw_cons (EW.imp h7 fun x7 m8 h8 => aw_cons (EW.imp h8 fun x8 m9 h9 => aw_cons (EW.imp h9 fun x9 m10 h10 => aw_cons (EW.imp h10 fun x10 m11 h11 => aw_cons (EW.imp h11 fun x11 m12 h12 => aw_cons (EW.imp h12 fun x12 m13 h13 => aw_nil ⟨Nat.le_of_ble_eq_true rfl, h13⟩))))))))))))))
theorem ew_lM0 (h0 : ∀ p, Q (.adr p) (m ++ [(p, .lst [])])) : EW K (tLst tNil) δ m Q := ew_lstM (aw_nil ⟨Nat.le_of_ble_eq_true rfl, h0⟩)
theorem ew_lM1 {t0 : TE} (h0 : EW K t0 δ m fun x0 m1 => ∀ p, Q (.adr p) (m1 ++ [(p, .lst [x0])])) : EW K (tLst (tCons t0 tNil)) δ m Q := ew_lstM (aw_cons (EW.imp h0 fun x0 m1 h1 => aw_nil ⟨Nat.le_of_ble_eq_true rfl, h1⟩))
theorem ew_lM2 {t0 t1 : TE} (h0 : EW K t0 δ m fun x0 m1 => EW K t1 δ m1 fun x1 m2 => ∀ p, Q (.adr p) (m2 ++ [(p, .lst [x0, x1])])) : EW K (tLst (tCons t0 (tCons t1 tNil))) δ m Q := ew_lstM (aw_cons (EW.imp h0 fun x0 m1 h1 => aw_cons (EW.imp h1 fun x1 m2 h2 => aw_nil ⟨Nat.le_of_ble_eq_true rfl, h2⟩)))
theorem ew_lM3 {t0 t1 t2 : TE} (h0 : EW K t0 δ m fun x0 m1 => EW K t1 δ m1 fun x1 m2 => EW K t2 δ m2 fun x2 m3 => ∀ p, Q (.adr p) (m3 ++ [(p, .lst [x0, x1, x2])])) : EW K (tLst (tCons t0 (tCons t1 (tCons t2 tNil)))) δ m Q := ew_lstM (aw_cons (EW.imp h0 fun x0 m1 h1 => aw_cons (EW.imp h1 fun x1 m2 h2 => aw_cons (EW.imp h2 fun x2 m3 h3 => aw_nil ⟨Nat.le_of_ble_eq_true rfl, h3⟩))))
theorem ew_lM4 {t0 t1 t2 t3 : TE} (h0 : EW K t0 δ m fun x0 m1 => EW K t1 δ m1 fun x1 m2 => EW K t2 δ m2 fun x2 m3 => EW K t3 δ m3 fun x3 m4 => ∀ p, Q (.adr p) (m4 ++ [(p, .lst [x0, x1, x2, x3])])) : EW K (tLst (tCons t0 (tCons t1 (tCons t2 (tCons t3 tNil))))) δ m Q := ew_lstM (aw_cons (EW.imp h0 fun x0 m1 h1 => aw_cons (EW.imp h1 fun x1 m2 h2 => aw_cons (EW.imp h2 fun x2 m3 h3 => aw_cons (EW.imp h3 fun x3 m4 h4 => aw_nil ⟨Nat.le_of_ble_eq_true rfl, h4⟩)))))
theorem ew_lM5 {t0 t1 t2 t3 t4 : TE} (h0 : EW K t0 δ m fun x0 m1 => EW K t1 δ m1 fun x1 m2 => EW K t2 δ m2 fun x2 m3 => EW K t3 δ m3 fun x3 m4 => EW K t4 δ m4 fun x4 m5 => ∀ p, Q (.adr p) (m5 ++ [(p, .lst [x0, x1, x2, x3, x4])])) : EW K (tLst (tCons t0 (tCons t1 (tCons t2 (tCons t3 (tCons t4 tNil)))))) δ m Q := ew_lstM (aw_cons (EW.imp h0 fun x0 m1 h1 => aw_cons (EW.imp h1 fun x1 m2 h2 => aw_cons (EW.imp h2 fun x2 m3 h3 => aw_cons (EW.imp h3 fun x3 m4 h4 => aw_cons (EW.imp h4 fun x4 m5 h5 => aw_nil ⟨Nat.le_of_ble_eq_true rfl, h5⟩))))))
end
end DL

set_option Elab.async false
set_option linter.all false
set_option maxRecDepth 100000
set_option maxHeartbeats 1000000
set_option autoImplicit false
/-! The end of a law whose program makes one lambda: its maker's table of code objects is a cell from the start. -/
namespace DL
open PySem PySem.Spec PyProof.Rows L2 LamX
section
variable {K : PySem.W.Frag} {x qual : Str} {st : Stmt} {f c : Addr} {ps : List Str}
/-- as Has; its code object stands at c -/
def HasC (K : PySem.W.Frag) (x qual : Str) (st : Stmt) (f c : Addr) (ps : List Str) : Prop := ∃ (oc : Value) (od : Option Addr) (dV kV dc pm : Value) (an : Option Addr) (ct : Value) (sl : Array (Option Value)),
  PySem.W.codeIn K (.ref c) qual = true ∧ K.lookup f = some ⟨oc, od, .func (PySem.W.fnOf x qual (defArgs st) (defBody st) (defScope st) dV kV dc pm an (.ref c) ct), sl⟩ ∧ Binds K (PySem.W.fnOf x qual (defArgs st) (defBody st) (defScope st) dV kV dc pm an (.ref c) ct) ps []
variable {P : Program} {w : World} {mg : Str → Option Value} {base : Heap} {k : Nat} {N : List Str} {Pf : FS}
theorem defOkC (h : HasC K x qual st f c ps) (S : FnScope N ps (defScope st)) {t : TS} (hlen : ∀ ds m Q, Pf ds m Q → ds.length = ps.length)
    (hd : ∀ (A : Around) (outer : List Env) (s : Shared) (H : Hp) (E : XK), Room k (A.deeper (envOfC qual (defScope st) s.heap.objs.size f (.ref c))) → PSs (cxOf CX0 P w K mg base N qual (defScope st) f (.ref c) A outer s H E).nox (defBody st) t)
    (hs : ∀ ds m (Q : D → Mem → Prop), Pf ds m Q → SW K t (startD N.length ds) m { nx := fun _ m' => Q .non m', rt := Q }) : Def P w K mg base (k + 1) f ps Pf := by
  obtain ⟨oc, od, dV, kV, dc, pm, an, ct, sl, hcd, lk, b⟩ := h
  refine ⟨_, fn_of lk hcd S (fun vs H Q E h => ?_) (fun A outer s H vs Q E hr h => ⟨t, (hd A outer s H E hr).nox, ?_⟩), b, ⟨oc, od, sl, lk⟩⟩
  · obtain ⟨ds, m, QS, r, _, p, _⟩ := h
    rw [r.length]
    exact hlen _ _ _ p
  · obtain ⟨ds, m, QS, r, M, p, k⟩ := h
    exact hs ds m QS p _ _ (sl_start r) M _ ⟨fun δ' m' σ' H' q e s' M' => k .non m' .non H' q e M' .non, fun d m' v H' q e M' r' => k d m' v H' q e M' r', fun _ _ _ _ q => q.elim, fun _ _ _ _ q => q.elim⟩
end
theorem hasC_mk {K : PySem.W.Frag} {x qual : Str} {st : Stmt} {f c : Addr} {ps : List Str} {oc kV dc pm ct : Value} {od an : Option Addr} {sl : Array (Option Value)}
    (l : K.lookup f = some ⟨oc, od, .func (PySem.W.fnOf x qual (defArgs st) (defBody st) (defScope st) .none kV dc pm an (.ref c) ct), sl⟩) (hc : PySem.W.codeIn K (.ref c) qual = true)
    (b : ∀ (kV dc pm : Value) (an : Option Addr) (cd ct : Value) (us : List Value), us.length = ps.length → bindArgs (PySem.W.fnOf x qual (defArgs st) (defBody st) (defScope st) .none kV dc pm an cd ct) ⟨us, []⟩ = pure (ps.zip us)) : HasC K x qual st f c ps :=
  ⟨oc, od, .none, kV, dc, pm, an, ct, sl, hc, l, .all (b kV dc pm an (.ref c) ct)⟩
/-- the name of a lambda's code object in the def with this name -/
abbrev lamQ (q : Str) : Str := (q ++ ".<locals>.") ++ "<lambda>"
def tableHp (K : PySem.W.Frag) (P a : Addr) (vs : List Value) (ns : List Int) : Hp := fun b => if b = P then some (.tbl #[]) else startHp K a vs ns b
section
variable {P : Program} {w : World} {K : PySem.W.Frag} {mg mb : Str → Option Value} {k : Nat} {fa a c T : Addr} {fd : FuncData} {x q : Str} {Pf : FS} {s : Shared} {vs : List Value} {ns : List Int}
theorem code_ofT (kin : K.In s.heap) (top : s.heap.Ns mainGlobals mg) (blt : s.heap.Ns builtinsNs mb) (boot : ∀ x : Str, x ≠ "__name__" → mb x = bootBuiltins x) (free : s.heap.NoLimit) (calm : s.gens = #[])
    (obj : s.heap.get? a = some { cls := .type "list", data := .seq vs.toArray }) (are : IntsAre vs ns) (few : ns.length ≤ sizeLine) (room : Room k callerA)
    (tab : s.heap.get? T = some { cls := .none, data := .fields #[] }) (noT : K.lookup T = none) (code : PySem.W.CodeHd s.heap c T)
    (main : ∃ (bm : Addr) (ob : Obj), mg "__builtins__" = some (.ref bm) ∧ bm ≠ builtinsNs ∧ s.heap.get? bm = some ob ∧ ob.cls = .type "module" ∧ ob.dict = some builtinsNs ∧ ob.data = .plain)
    (F : ∀ base : Heap, K.In base → base.Ns mainGlobals mg → TabB base mg c T → FnG P w K mg base k fa fd [x] (spOf K Pf)) (bind : ∀ (s : Shared) (u : Value), BindsTo s fd ⟨[u], []⟩ [(x, u)])
    (keeps : Pf [.scr ns] [(T, .tbl q)] fun d _ => d = .bl true) :
    codeAny (model P w) callerA (.call (.ref fa) ⟨[.ref a], []⟩) (fun r s' => r = .ok (.ret (.bool true)) ∧ OldK s.heap s'.heap ∧ s'.os = s.os ∧ AllBare s'.gens) s := by
  have rel := vals_ints are
  have aT : a ≠ T := fun e => by
    subst e
    rw [obj] at tab
    cases tab
  generalize hG : tableHp K T a vs ns = G
  have gT : G T = some (.tbl #[]) := by rw [← hG]; exact if_pos rfl
  have gO : ∀ b, b ≠ T → G b = startHp K a vs ns b := fun b hb => by rw [← hG]; exact if_neg hb
  have sq : SqL K G a (ns.map V.int) := by
    rcases startHp_sq kin obj are few with (h | ⟨o, h⟩) | h
    · exact .inl (.inl ((gO a aT).trans h))
    · exact .inl (.inr ⟨o, (gO a aT).trans h⟩)
    · exact .inr h
  have tracked : ∀ {b : Addr} {u : HO}, G b = some u → (b = T ∧ u = .tbl #[]) ∨ (b ≠ T ∧ K.lookup a = none ∧ b = a ∧ u = .frz { cls := .type "list", data := .seq vs.toArray } (.lst (ns.map V.int))) := fun {b u} h => by
    by_cases e : b = T
    · subst e
      rw [gT] at h
      exact .inl ⟨rfl, (Option.some.inj h).symm⟩
    · rw [gO b e] at h
      exact .inr ⟨e, startHp_some h⟩
  have hok : HOk P w G s.heap := fun b u h => by
    rcases tracked h with ⟨rfl, rfl⟩ | ⟨_, _, rfl, rfl⟩
    · exact tab
    · refine ⟨obj, ?_, vs, _, rel, obj⟩
      rw [List.length_map]
      exact few
  have still : ∀ {b : Addr} {o : Obj}, s.heap.get? b = some o → (∀ vs n, o.data ≠ .seq vs n) → o.data ≠ .fields #[] → G b = none := fun {b o} e d1 d2 => by
    cases c : G b with
    | none => rfl
    | some u =>
      rcases tracked c with ⟨rfl, _⟩ | ⟨_, _, rfl, _⟩
      · rw [tab] at e
        cases e
        exact absurd rfl d2
      · rw [obj] at e
        cases e
        exact absurd rfl (d1 _ _)
  have dict : ∀ {b : Addr} {o : Obj} {es : Array DictEntry} {ep : Nat}, s.heap.get? b = some o → o.data = .dict es ep → G b = none := fun {b o es ep} e d => still e (fun vs n z => by rw [d] at z; cases z) (fun z => by rw [d] at z; cases z)
  have names : ∀ {b : Addr} {mm : Str → Option Value}, s.heap.Ns b mm → (hidT s.heap G).Ns b mm := fun {b mm} h => by
    obtain ⟨o, es, ep, e, d, r⟩ := h
    exact ⟨o, es, ep, hidT_get e (dict e d), d, r⟩
  have kin2 : K.In (hidT s.heap G) := fun b o e => by
    refine hidT_get (kin b o e) ?_
    cases c : G b with
    | none => rfl
    | some u =>
      rcases tracked c with ⟨rfl, _⟩ | ⟨_, n, rfl, _⟩
      · rw [noT] at e
        cases e
      · rw [n] at e
        cases e
  obtain ⟨mc, l1, l2⟩ := free
  have modl : Mod K mg (hidT s.heap G) := ⟨kin2, names top, ⟨mb, names blt, boot⟩, mc, names l1, l2⟩
  have TB : TabB (hidT s.heap G) mg c T := by
    refine ⟨?_, ?_, fun z => ?_⟩
    · obtain ⟨o, us, file, tf, flags, tg, inF, text, tt, e1, r1, r2, r3, r4⟩ := code
      refine ⟨o, us, file, tf, flags, tg, inF, text, tt, hidT_get e1 (still e1 (fun vs n z => ?_) fun z => ?_), r1, r2, r3, r4⟩
      · rw [r2] at z
        cases z
      · rw [r2] at z
        cases z
        simp at r3
    · obtain ⟨bm, ob, b1, b2, b3, b4, b5, b6⟩ := main
      refine ⟨bm, ob, b1, b2, fun e => ?_, fun e => ?_, hidT_get b3 (still b3 (fun vs n z => ?_) fun z => ?_), b4, b5, b6⟩
      · obtain ⟨o, es, ep, e2, hd, _⟩ := top
        rw [e, e2] at b3
        cases b3
        rw [hd] at b6
        cases b6
      · rw [e, tab] at b3
        cases b3
        cases b6
      · rw [b6] at z
        cases z
      · rw [b6] at z
        cases z
    · obtain ⟨o, es, ep, e2, hd, _⟩ := top
      rw [z, tab] at e2
      cases e2
      cases hd
  have env : Env0 P w K mg (hidT s.heap G) callerA [] s G := ⟨rfl, modl, fun b o e => of_hidT e, Nat.le_of_eq (hidT_size _ _), trivial, fun b hb => (List.not_mem_nil hb).elim, hok, .of_eq calm⟩
  have M0 : MemOk K [(T, .tbl q)] G := by
    refine ⟨by simp, fun p d hm => ?_⟩
    rw [List.mem_singleton] at hm
    cases hm
    refine ⟨#[], gT, trivial, fun pos cv hc => ?_⟩
    have z : PySem.codeAmong pos [] = some cv := hc
    simp [PySem.codeAmong] at z
  have sq0 : SqL K (hide [(T, .tbl q)] G) a (ns.map V.int) := by
    have out : ∀ {u}, G a = some u → hide [(T, Cell.tbl q)] G a = some u := fun {u} h => by
      rw [hide_out (by simpa using aT)]
      exact h
    rcases sq with (h | ⟨o, h⟩) | h
    · exact .inl (.inl (out h))
    · exact .inl (.inr ⟨o, out h⟩)
    · exact .inr h
  have wish : spOf K Pf [.ref a] G (fun v _ => v = .bl true) E0 := by
    refine ⟨[.scr ns], [(T, .tbl q)], fun d _ => d = .bl true, .cons (.scr sq0) .nil, M0, keeps, fun d m' v H' q _ _ r => ?_⟩
    subst q
    cases r
    rfl
  have run := (F _ kin2 (names top) TB).go callerA [] s G ⟨[.ref a], []⟩ [.ref a] [.ref a] (fun v _ => v = .bl true) rfl room env (bind s (.ref a)) (.cons rfl .nil) wish
  refine codeAny_mono run fun r s' h => ?_
  match r, h with
  | .error e, h => exact False.elim h
  | .ok .next, h => exact False.elim h
  | .ok .brk, h => exact False.elim h
  | .ok .cont, h => exact False.elim h
  | .ok (.ret u), ⟨v, H', os, bare, un, hok', ru, qv⟩ =>
    have qv' : v = .bl true := qv
    subst qv'
    have ru' : u = Value.bool true := ru
    subst ru'
    have stays : ∀ b o, b ≠ T → s.heap.get? b = some o → s'.heap.get? b = some o := fun b o nb e => by
      cases c : G b with
      | none => exact un.keep b o e c (fun z => (List.not_mem_nil (show b ∈ ([] : List Addr) from z)).elim) (List.not_mem_nil)
      | some u =>
        rcases tracked c with ⟨z, _⟩ | ⟨_, _, rfl, rfl⟩
        · exact absurd z nb
        · have e2 := (hok' b _ (un.frzs b _ _ c)).1
          rw [obj] at e
          cases e
          exact e2
    obtain ⟨more, grown⟩ := un.tbls T #[] gT
    have tab' : s'.heap.get? T = some { cls := .none, data := .fields (#[] ++ more) } := hok' T _ grown
    refine ⟨rfl, ⟨fun b o e => ?_, fun b o e => ?_⟩, os, bare⟩
    · by_cases hb : b = T
      · subst hb
        rw [tab] at e
        cases e
        exact .inr (.inl ⟨(code.tab tab).isCodeTable, rfl, #[], more, rfl, tab'⟩)
      · exact .inl (stays b o hb e)
    · by_cases hb : b = T
      · subst hb
        exact ⟨_, tab'⟩
      · exact ⟨o, stays b o hb e⟩
end
theorem walk_at_lawT {l : PySem.W.OpenLaw} {n k : Nat} {q : Program} {loose : List Str} {XP : (Str → Option Value) → Heap → Prop} {YP : World → Heap → Prop} {d : DefRec} {K : Params → PySem.W.Frag} {Pf : Addr → FS} {x tq : Str}
    (most : l.most = some n) (small : n ≤ sizeLine) (nodef : d.params.defaults = []) (room : Room k callerA) (written : ∀ (w : World) (h : Heap), YP w h → (K w.params).In h)
    (F : ∀ (w : World) (mg : Str → Option Value) (fa : Addr) (h : Heap), YP w h → (K w.params).In h → h.Ns mainGlobals mg → mg d.name = some (.ref fa) →
      ∃ (fd : FuncData) (c T : Addr), h.get? T = some { cls := .none, data := .fields #[] } ∧ (K w.params).lookup T = none ∧ PySem.W.CodeHd h c T ∧ (∀ (s : Shared) (u : Value), BindsTo s fd ⟨[u], []⟩ [(x, u)]) ∧
        (∀ ns : List Int, ns.length ≤ n → (∀ z ∈ ns, Builtin.Int.intBits z ≤ 1048576) → Pf T [.scr ns] [(T, .tbl tq)] fun d _ => d = .bl true) ∧
        ∀ base : Heap, (K w.params).In base → base.Ns mainGlobals mg → TabB base mg c T → FnG l.prog w (K w.params) mg base k fa fd [x] (spOf (K w.params) (Pf T))) :
    PySem.W.WalkO q loose XP YP l.row.toRowW d [] (fun f vs => PySem.call f vs) := by
  apply Att.attach_callB most nodef
  intro w s0 s mg mb fa o pm cd doc a vs ns ground y _ _ _ named obj are few bits calm
  obtain ⟨fd, c, T, tab, noT, code, bind, keeps, promise⟩ := F w mg fa s.heap y (written w _ y) ground.T.g named
  exact code_ofT (written w _ y) ground.T.g ground.T.b ground.T.builtins ground.T.nolimit calm obj are (Nat.le_trans few small) room tab noT code ground.T.bmain promise bind (keeps ns few bits)
end DL

set_option Elab.async false
set_option linter.all false
set_option maxRecDepth 100000
set_option maxHeartbeats 1000000
set_option autoImplicit false
/-! sorted(xs), xs a list of pairs of whole numbers. -/
namespace DL
open PySem PySem.Spec PyProof.Rows L2 LamX SrtO
def IsPr (K : PySem.W.Frag) (H : Hp) (x : V) (p : Int × Int) : Prop := ∃ t, x = .ref t ∧ SqT K H t [.int p.1, .int p.2]
def rSortedPT (K : PySem.W.Frag) : List V → Hp → VK → Prop := fun vs H Q => ∃ (a : Addr) (xs : List V) (ps : List (Int × Int)), vs = [V.ref a] ∧ SqL K H a xs ∧ Paired (IsPr K H) xs ps ∧
  ∀ (zs : List (V × (Int × Int))) (p : Addr), zs.Perm (xs.zip ps) → (zs.map (·.2)).Pairwise (fun x y => lexB y x = false) → H p = none → Q (.ref p) (upd H p (.lst (zs.map (·.1))))
theorem paired_zip {K : PySem.W.Frag} {H : Hp} {k : V → Int × Int} : ∀ {xs : List V} {ps : List (Int × Int)}, Paired (IsPr K H) xs ps → (∀ x p, IsPr K H x p → k x = p) → xs.zip ps = xs.map fun x => (x, k x)
  | _, _, .nil, _ => rfl
  | _, _, .cons h t, e => by
    rw [List.zip_cons_cons, List.map_cons, paired_zip t e, e _ _ h]
theorem paired_mem {K : PySem.W.Frag} {H : Hp} : ∀ {xs : List V} {ps : List (Int × Int)}, Paired (IsPr K H) xs ps → ∀ x ∈ xs, ∃ p, IsPr K H x p
  | _, _, .nil, _, h => by cases h
  | _, _, .cons h t, x, hx => by
    rcases List.mem_cons.mp hx with rfl | hx
    · exact ⟨_, h⟩
    · exact paired_mem t x hx
open Classical in
theorem cr_sortedPT {X : Cx} : CallR X (.builtin "sorted") (rSortedPT X.K) := by
  intro pins s σ H vs us Q I r h
  obtain ⟨a, xs, ps, rfl, hs, hx, q⟩ := h
  obtain ⟨its, rv, hl, hz⟩ := I.list hs
  obtain ⟨u, rfl, ru⟩ := vals1 r
  obtain rfl : u = Value.ref a := ru
  let k : V → Int × Int := fun v => if h : ∃ p, IsPr X.K H v p then Classical.choose h else (0, 0)
  have kp : ∀ x p, IsPr X.K H x p → k x = p := fun x p hp => by
    have h : ∃ p, IsPr X.K H x p := ⟨p, hp⟩
    have e : k x = Classical.choose h := dif_pos h
    obtain ⟨t, e1, h1⟩ := Classical.choose_spec h
    obtain ⟨t', e2, h2⟩ := hp
    rw [e1] at e2
    cases e2
    have := I.tuple_inj h1 h2
    injection this with z1 this
    injection this with z2 _
    injection z1 with z1
    injection z2 with z2
    rw [e]
    exact Prod.ext z1 z2
  obtain ⟨e1, e2⟩ := refs_back rv fun x m => by
    obtain ⟨p, t, e, _⟩ := paired_mem hx x m
    exact ⟨t, e⟩
  refine SrtO.sorted_pairsO (k := fun u => k (backV u)) hl.isList (by rw [← rv.length]; exact hz) (fun v hv => ?_) fun h' d out h1 h2 kp2 hd hn => ?_
  · obtain ⟨t, rfl⟩ := e2 v hv
    have hm : V.ref t ∈ xs := by rw [e1]; exact List.mem_map.mpr ⟨_, hv, rfl⟩
    obtain ⟨p, hp⟩ := paired_mem hx _ hm
    have ek := kp _ _ hp
    obtain ⟨t', e, ht⟩ := hp
    cases e
    obtain ⟨its2, r2, ⟨o, ho, hc, n, hd⟩, _⟩ := I.tuple ht
    obtain ⟨u1, u2, rfl, ri, rj⟩ := vals2 r2
    obtain ⟨t1, rfl⟩ := ri
    obtain ⟨t2, rfl⟩ := rj
    refine ⟨t, o, t1, t2, n, rfl, ho, hc, ?_⟩
    show o.data = .seq #[.int (k (V.ref t)).1 t1, .int (k (V.ref t)).2 t2] n
    rw [ek]
    exact hd
  · have h3 : ∀ u ∈ out, ∃ a, u = Value.ref a := fun u hu => e2 u (h2.perm.mem_iff.mp hu)
    obtain ⟨n, hn⟩ := hn
    have hp : (out.map backV).Perm xs := by
      rw [e1]
      exact h2.perm.map backV
    refine ⟨.ref d, upd H d (.lst (out.map backV)), I.laid (t' := s.toks) kp2 hd ⟨?_, out, n, vals_back h3, hn⟩, rfl, ?_⟩
    · rw [hp.length_eq]
      exact hz
    · have z := q ((out.map backV).map fun x => (x, k x)) d (by rw [paired_zip hx kp]; exact hp.map _) ?_ (I.hok.fresh hd)
      · have e : ((out.map backV).map fun x => (x, k x)).map (·.1) = out.map backV := by
          rw [List.map_map]
          conv => rhs; rw [← List.map_id (out.map backV)]
          rfl
        rwa [e] at z
      · rw [List.map_map, List.map_map]
        exact List.pairwise_map.mpr (h1.imp fun h => h)
theorem pd_mono {α β : Type} {R S : α → β → Prop} (h : ∀ x y, R x y → S x y) : ∀ {xs : List α} {ys : List β}, Paired R xs ys → Paired S xs ys
  | _, _, .nil => .nil
  | _, _, .cons a b => .cons (h _ _ a) (pd_mono h b)
theorem zip_snd {α β : Type} : ∀ {xs : List α} {ys : List β}, xs.length = ys.length → (xs.zip ys).map (·.2) = ys
  | [], [], _ => rfl
  | [], _ :: _, h => by cases h
  | _ :: _, [], h => by cases h
  | x :: xs, y :: ys, h => by
    rw [List.zip_cons_cons, List.map_cons, zip_snd (by simpa using h)]
def pairD (p : Int × Int) : D := .tup [.int p.1, .int p.2]
def leP (x y : Int × Int) : Bool := !lexB y x
theorem leP_total (x y : Int × Int) : (leP x y || leP y x) = true := by
  unfold leP
  cases h : lexB y x
  · rfl
  · cases h2 : lexB x y
    · rfl
    · rw [lexB_iff] at h h2
      omega
theorem leP_trans (x y z : Int × Int) (h1 : leP x y = true) (h2 : leP y z = true) : leP x z = true := by
  unfold leP at *
  rw [Bool.not_eq_true'] at *
  rw [lexB_no] at *
  omega
theorem leP_anti (x y : Int × Int) (h1 : leP x y = true) (h2 : leP y x = true) : x = y := by
  unfold leP at *
  rw [Bool.not_eq_true'] at *
  rw [lexB_no] at *
  exact Prod.ext (by omega) (by omega)
/-- the sorted list of some pairs -/
def srtP (ps : List (Int × Int)) : List (Int × Int) := ps.mergeSort leP
theorem srtP_perm (ps : List (Int × Int)) : (srtP ps).Perm ps := List.mergeSort_perm _ _
theorem srtP_srt (ps : List (Int × Int)) : (srtP ps).Pairwise fun x y => leP x y = true := List.pairwise_mergeSort leP_trans leP_total _
theorem srtP_of {ps ys : List (Int × Int)} (p : ys.Perm ps) (s : ys.Pairwise fun x y => leP x y = true) : ys = srtP ps := by
  refine List.Perm.eq_of_pairwise (le := fun x y => leP x y = true) (fun x y _ _ => leP_anti x y) s (srtP_srt ps) (p.trans (srtP_perm ps).symm)
section
variable {K : PySem.W.Frag} {δ : List (Option D)} {m : Mem} {Q : D → Mem → Prop} {F : Hp}
theorem rdl_pairs {xs : List V} {ps : List (Int × Int)} : RdL K F xs (ps.map pairD) → Paired (IsPr K F) xs ps := by
  induction ps generalizing xs with
  | nil => intro h; cases h; exact .nil
  | cons p ps ih =>
    intro h
    rw [List.map_cons] at h
    cases h with
    | cons h t =>
      refine .cons ?_ (ih t)
      cases h with
      | tup e r =>
        cases r with
        | cons r1 r2 =>
          cases r2 with
          | cons r2 r3 =>
            cases r1
            cases r2
            cases r3
            exact ⟨_, rfl, e⟩
theorem rdl_zip {xs : List V} {ps : List (Int × Int)} (h : RdL K F xs (ps.map pairD)) : ∀ z ∈ xs.zip ps, Rd K F z.1 (pairD z.2) := by
  induction ps generalizing xs with
  | nil => intro z hz; simp at hz
  | cons p ps ih =>
    rw [List.map_cons] at h
    cases h with
    | cons h t =>
      intro z hz
      rw [List.zip_cons_cons] at hz
      rcases List.mem_cons.mp hz with rfl | hz
      · exact h
      · exact ih t z hz
theorem rdl_unzip : ∀ {zs : List (V × (Int × Int))}, (∀ z ∈ zs, Rd K F z.1 (pairD z.2)) → RdL K F (zs.map (·.1)) ((zs.map (·.2)).map pairD)
  | [], _ => .nil
  | z :: zs, h => .cons (h z List.mem_cons_self) (rdl_unzip fun x hx => h x (List.mem_cons_of_mem _ hx))
theorem cP_sort {x : D} {ps : List (Int × Int)} (h : SeqIn m x (ps.map pairD)) (q : Q (.lst ((srtP ps).map pairD)) m) : CW K (rSortedPT K) [x] m Q := fun H v M a QQ k => by
  cases a with
  | cons a b =>
    cases b
    obtain ⟨p, xs, rfl, e, r⟩ := h.get M a
    have hl : xs.length = ps.length := by rw [r.length, List.length_map]
    refine ⟨p, xs, ps, rfl, ?_, ?_, fun zs z pm so np => ?_⟩
    · exact SqL.of e
    · have := rdl_pairs r
      exact pd_mono (fun x p ⟨t, e, h⟩ => ⟨t, e, hide_le.sqt h⟩) this
    · have hz : ∀ y ∈ zs, Rd K (hide m H) y.1 (pairD y.2) := fun y hy => rdl_zip r y (pm.mem_iff.mp hy)
      obtain ⟨M2, s2, r2⟩ := new_lst M (rdl_unzip hz) np
      have e2 : zs.map (·.2) = srtP ps := by
        refine srtP_of ?_ (so.imp fun h => ?_)
        · have := pm.map (·.2)
          rwa [zip_snd hl] at this
        · unfold leP
          rw [h]
          rfl
      rw [e2] at r2
      exact k _ m _ _ q s2 M2 r2
theorem pe_sortP {X : Cx} (hK : X.K = K) : CallR X (.builtin "sorted") (rSortedPT K) := by
  subst hK
  exact cr_sortedPT
end
/-! ### cells lent as data -/
/-- whether it names no place of the heap but by its address -/
def D.sc : D → Bool
  | .non | .bl _ | .int _ | .str _ | .ty _ | .adr _ => true
  | _ => false
/-- a plain value, or a tuple of such -/
def D.tsc : D → Bool
  | .tup ds => ds.all D.sc
  | d => d.sc
def Cell.flat : Cell → Bool
  | .lst ds => ds.all D.tsc
  | .dic kvs => (kvs.map Prod.snd).all D.sc
  | .ins _ fs => (fs.map Prod.snd).all D.sc
  | .xd fs => (fs.map Prod.snd).all D.sc
  | .obj _ => true
  | .tbl _ => true
def Cell.own : Cell → Bool
  | .obj _ => false
  | _ => true
section
variable {K : PySem.W.Frag} {δ δ' : List (Option D)} {m m0 m1 r : Mem} {Q : D → Mem → Prop} {F G H H1 : Hp}
theorem Rd.sc {v : V} {d : D} (h : d.sc = true) (x : Rd K F v d) : Rd K G v d := by
  cases x with
  | non => exact .non
  | bl b => exact .bl b
  | int i => exact .int i
  | str x => exact .str x
  | adr a => exact .adr a
  | ty n => exact .ty n
  | _ => cases h
theorem RdL.sc : ∀ {vs : List V} {ds : List D}, ds.all D.sc = true → RdL K F vs ds → RdL K G vs ds
  | _, _, _, .nil => .nil
  | _, _, h, .cons a b => by
    rw [List.all_cons, Bool.and_eq_true] at h
    exact .cons (Rd.sc h.1 a) (RdL.sc h.2 b)
def ownHO : HO → Bool
  | .lst _ | .dK _ | .ins _ _ _ | .xd _ | .tbl _ => true
  | _ => false
theorem Rd.tsc {v : V} {d : D} (h : d.tsc = true) (t : ∀ a o, F a = some o → ownHO o = false → G a = some o) (x : Rd K F v d) : Rd K G v d := by
  cases x with
  | non => exact .non
  | bl b => exact .bl b
  | int i => exact .int i
  | str x => exact .str x
  | adr a => exact .adr a
  | ty n => exact .ty n
  | tup e r =>
    refine .tup ?_ (RdL.sc h r)
    rcases e with (q | ⟨o, q⟩) | q
    · exact .inl (.inl (t _ _ q rfl))
    · exact .inl (.inr ⟨o, t _ _ q rfl⟩)
    · exact .inr q
  | _ => cases h
theorem RdL.tsc (t : ∀ a o, F a = some o → ownHO o = false → G a = some o) : ∀ {vs : List V} {ds : List D}, ds.all D.tsc = true → RdL K F vs ds → RdL K G vs ds
  | _, _, _, .nil => .nil
  | _, _, h, .cons a b => by
    rw [List.all_cons, Bool.and_eq_true] at h
    exact .cons (Rd.tsc h.1 t a) (RdL.tsc t h.2 b)
theorem cell_flat {p : Addr} {c : Cell} (h : c.flat = true) (x : CellAt K F H p c) (t : ∀ a o, F a = some o → ownHO o = false → G a = some o) : CellAt K G H p c := by
  cases c with
  | lst ds => obtain ⟨xs, e, r⟩ := x; exact ⟨xs, e, RdL.tsc t h r⟩
  | dic ds => obtain ⟨xs, e, n, r⟩ := x; exact ⟨xs, e, n, RdL.sc h r⟩
  | ins C ds => obtain ⟨dx, xs, e, n, r⟩ := x; exact ⟨dx, xs, e, n, RdL.sc h r⟩
  | xd ds => obtain ⟨xs, e, n, r⟩ := x; exact ⟨xs, e, n, RdL.sc h r⟩
  | obj o => exact x
  | tbl q => obtain ⟨ps, e, t1, t2⟩ := x; exact ⟨ps, e, t1, fun pos cv hc => let ⟨c, e, h⟩ := t2 pos cv hc; ⟨c, e, t _ _ h rfl⟩⟩
theorem own_at {p : Addr} {c : Cell} (h : c.own = true) (x : CellAt K F H p c) : ∃ o, H p = some o ∧ ownHO o = true := by
  cases c with
  | lst ds => obtain ⟨xs, e, r⟩ := x; exact ⟨_, e, rfl⟩
  | dic ds => obtain ⟨xs, e, n, r⟩ := x; exact ⟨_, e, rfl⟩
  | ins C ds => obtain ⟨dx, xs, e, n, r⟩ := x; exact ⟨_, e, rfl⟩
  | xd ds => obtain ⟨xs, e, n, r⟩ := x; exact ⟨_, e, rfl⟩
  | obj o => cases h
  | tbl q => obtain ⟨ps, e, t1, t2⟩ := x; exact ⟨_, e, rfl⟩
theorem lend_back (M : MemOk K (m0 ++ r) H) (ow : ∀ x ∈ r, x.2.own = true) (s : Sub (hide m0 H) (hide m1 H1)) (M1 : MemOk K m1 H1) (fl : ∀ x ∈ m1, x.2.flat = true) : MemOk K (m1 ++ r) H1 ∧ Sub (hide (m0 ++ r) H) (hide (m1 ++ r) H1) ∧ ∀ a o, hide m1 H1 a = some o → ownHO o = false → hide (m1 ++ r) H1 a = some o := by
  have nd := M.nd
  rw [List.map_append] at nd
  have at0 : ∀ p c, (p, c) ∈ r → ∃ o, H p = some o ∧ p ∉ m1.map Prod.fst ∧ H1 p = some o ∧ ownHO o = true := fun p c hc => by
    obtain ⟨o, e, ne⟩ := own_at (ow _ hc) (M.at_ p c (List.mem_append_right _ hc))
    have hp : p ∈ r.map Prod.fst := List.mem_map_of_mem (f := Prod.fst) hc
    have n0 : p ∉ m0.map Prod.fst := fun q => (List.nodup_append.mp nd).2.2 p q p hp rfl
    have e1 := s p o (by rw [hide_out n0]; exact e)
    have n1 : p ∉ m1.map Prod.fst := fun q => by rw [hide_in q] at e1; cases e1
    rw [hide_out n1] at e1
    exact ⟨o, e, n1, e1, ne⟩
  have sb : Sub (hide (m0 ++ r) H) (hide (m1 ++ r) H1) := fun a o e => by
    have n : a ∉ (m0 ++ r).map Prod.fst := fun q => by rw [hide_in q] at e; cases e
    rw [hide_out n] at e
    rw [List.map_append, List.mem_append, not_or] at n
    have e1 := s a o (by rw [hide_out n.1]; exact e)
    have n1 : a ∉ m1.map Prod.fst := fun q => by rw [hide_in q] at e1; cases e1
    rw [hide_out n1] at e1
    rw [hide_out (by rw [List.map_append, List.mem_append, not_or]; exact ⟨n1, n.2⟩)]
    exact e1
  have keep : ∀ a o, hide m1 H1 a = some o → ownHO o = false → hide (m1 ++ r) H1 a = some o := fun a o e no => by
    have n1 : a ∉ m1.map Prod.fst := fun z => by rw [hide_in z] at e; cases e
    rw [hide_out n1] at e
    have n2 : a ∉ r.map Prod.fst := fun z => by
      obtain ⟨⟨a', c'⟩, hc', rfl⟩ := List.mem_map.mp z
      obtain ⟨o', _, _, e1, ne⟩ := at0 a' c' hc'
      rw [e1] at e
      cases e
      rw [ne] at no
      cases no
    rw [hide_out (by rw [List.map_append, List.mem_append, not_or]; exact ⟨n1, n2⟩)]
    exact e
  refine ⟨⟨?_, fun p c hc => ?_⟩, sb, keep⟩
  · rw [List.map_append]
    refine List.nodup_append.mpr ⟨M1.nd, (List.nodup_append.mp nd).2.1, fun a ha b hb e => ?_⟩
    subst e
    obtain ⟨⟨p, c⟩, hc, rfl⟩ := List.mem_map.mp hb
    obtain ⟨_, _, n1, _⟩ := at0 p c hc
    exact n1 ha
  · rcases List.mem_append.mp hc with hc | hc
    · exact cell_flat (fl _ hc) (M1.at_ p c hc) keep
    · obtain ⟨o, e, _, e1, _⟩ := at0 p c hc
      exact (M.at_ p c (List.mem_append_right _ hc)).mono sb (e1.trans e.symm)
/-- δ' is δ, some cells of r told as data -/
def Lent (r : Mem) (δ δ' : List (Option D)) : Prop := δ'.length = δ.length ∧ ∀ (i : Nat) (d : D), δ'[i]? = some (some d) → δ[i]? = some (some d) ∨ ∃ (z : Addr) (c : Cell), δ[i]? = some (some (D.adr z)) ∧ (z, c) ∈ r ∧ c.d = some d
theorem Lent.refl : Lent r δ δ := ⟨rfl, fun _ _ h => .inl h⟩
theorem Lent.set {i : Nat} {z : Addr} {c : Cell} {d : D} (L : Lent r δ δ') (e : δ[i]? = some (some (D.adr z))) (hc : (z, c) ∈ r) (ec : c.d = some d) : Lent r δ (δ'.set i (some d)) := by
  refine ⟨by rw [List.length_set]; exact L.1, fun j x h => ?_⟩
  by_cases hj : i = j
  · subst hj
    have hl : i < δ'.length := by
      rw [L.1]
      exact (List.getElem?_eq_some_iff.mp e).1
    rw [List.getElem?_set_self hl] at h
    cases h
    exact .inr ⟨z, c, e, hc, ec⟩
  · rw [List.getElem?_set_ne hj] at h
    exact L.2 j x h
theorem Lent.sl {σ : L2.St} (L : Lent r δ δ') (M : MemOk K (m0 ++ r) H) (s : Sl K (hide (m0 ++ r) H) σ δ) : Sl K (hide m0 H) σ δ' := by
  have sb := (MemOk.dropG r M).2
  have nd := M.nd
  rw [List.map_append] at nd
  refine ⟨s.1.trans L.1.symm, fun i d h => ?_⟩
  rcases L.2 i d h with h | ⟨z, c, e, hc, ec⟩
  · obtain ⟨v, e1, r1⟩ := s.2 i d h
    exact ⟨v, e1, r1.mono sb⟩
  · obtain ⟨v, e1, r1⟩ := s.2 i _ e
    cases r1
    refine ⟨_, e1, still_of (M.at_ z c (List.mem_append_right _ hc)) ec sb (hide_out fun q => ?_)⟩
    exact (List.nodup_append.mp nd).2.2 z q z (List.mem_map_of_mem (f := Prod.fst) hc) rfl
theorem ew_lend {te : TE} (L : Lent r δ δ') (ow : ∀ x ∈ r, x.2.own = true) (h : EW K te δ' m0 fun d m1 => d.tsc = true ∧ (∀ x ∈ m1, x.2.flat = true) ∧ Q d (m1 ++ r)) : EW K te δ (m0 ++ r) Q := fun σ H s M QQ k =>
  h σ H (L.sl M s) (MemOk.dropG r M).1 QQ fun d m1 v H1 ⟨sd, fl, q⟩ s1 M1 r1 =>
    let ⟨M2, s2, t⟩ := lend_back M ow s1 M1 fl
    k d _ v H1 q s2 M2 (Rd.tsc sd t r1)
theorem tw_lend {tt : TT} {Q : Bool → Mem → Prop} (L : Lent r δ δ') (ow : ∀ x ∈ r, x.2.own = true) (h : TW K tt δ' m0 fun b m1 => (∀ x ∈ m1, x.2.flat = true) ∧ Q b (m1 ++ r)) : TW K tt δ (m0 ++ r) Q := fun σ H s M QQ k =>
  h σ H (L.sl M s) (MemOk.dropG r M).1 QQ fun b m1 H1 ⟨fl, q⟩ s1 M1 =>
    let ⟨M2, s2, _⟩ := lend_back M ow s1 M1 fl
    k b _ H1 q s2 M2
end
/-! ### new cells; what is done to them -/
section
variable {K : PySem.W.Frag} {δ : List (Option D)} {m : Mem} {Q : D → Mem → Prop} {te : TE} {p : Addr} {ds : List D}
theorem ew_listM (h : EW K te δ m fun x m1 => ∃ ds, SeqIn m1 x ds ∧ ∀ z, Q (.adr z) (m1 ++ [(z, .lst ds)])) : EW K (tCB (rListU K) (tCons te tNil)) δ m Q := by
  refine ew_cb (aw_cons (h.imp fun x m1 ⟨ds, hx, q⟩ => aw_nil ?_))
  rcases hx with rfl | ⟨p, rfl, hm⟩
  · exact cw_listLM q
  · intro H vs M a QQ k
    cases a with
    | cons a b =>
      cases b
      obtain ⟨p', xs, e0, e, r⟩ := (show SeqIn m1 (.adr p) ds from .inr ⟨p, rfl, hm⟩).get M a
      subst e0
      refine ⟨p', xs, rfl, .inl (SqL.of e), fun z hz => ?_⟩
      obtain ⟨M2, s2⟩ := new_lstM M r hz
      exact k _ _ _ _ (q z) s2 M2 (.adr z)
theorem ew_dictM (h : EW K te δ m fun x m1 => ∃ kvs : List (Key × D), x = .lst (kvs.map pairKD) ∧ (kvs.map Prod.fst).Nodup ∧ ∀ z, Q (.adr z) (m1 ++ [(z, .dic kvs)])) : EW K (tCB (rDictP K) (tCons te tNil)) δ m Q := by
  refine ew_cb (aw_cons (h.imp fun x m1 ⟨kvs, ex, nd, q⟩ => aw_nil ?_))
  subst ex
  intro H vs M a QQ k
  cases a with
  | cons a n =>
    cases n
    obtain ⟨p, xs, rfl, e, r⟩ := lst_at a
    obtain ⟨ps, ws, rfl, hp, hk, hr⟩ := pairs_at r
    refine ⟨p, ps, ws, rfl, SqL.of e, paired_mono hide_le hp, fun z hz => ?_⟩
    rw [merge_nd ws [] (by rw [List.nil_append, hk]; exact nd), List.nil_append]
    have e2 : hide (m1 ++ [(z, Cell.dic kvs)]) (upd H z (.dK ws)) = hide m1 H := hide_cell hz
    exact k _ _ _ _ (q z) (by rw [e2]; exact Sub.refl _) (M.cell (c := .dic kvs) hz ⟨ws, upd_same, hk, hr⟩) (.adr z)
theorem ma_pop {d : D} {m' : Mem} (hm : MUp m p (.lst ds) (.lst ds.dropLast) m') (e : ds[ds.length - 1]? = some d) (q : Q d m') : MW K rPop (.adr p) [] m Q := fun H v vs M a b QQ k => by
  obtain ⟨i, hm, em⟩ := hm
  subst em
  cases a
  cases b
  obtain ⟨xs, ex, r⟩ := cell_at M hm
  obtain ⟨y, hy, ry⟩ := r.get e
  have rd : RdL K (hide m H) xs.dropLast ds.dropLast := by
    rw [List.dropLast_eq_take, List.dropLast_eq_take, r.length]
    exact r.take _
  obtain ⟨M2, s2⟩ := set_cell (c' := .lst ds.dropLast) (o := .lst xs.dropLast) M hm ⟨_, upd_same, rd⟩
  exact ⟨p, xs, y, rfl, rfl, ex, by rw [r.length]; exact hy, k d _ y _ q s2 M2 (ry.mono s2)⟩
end
/-- a method without arguments of one type or another -/
def tBM0U (K : PySem.W.Frag) (T1 T2 : String) (r1 r2 : V → List V → Hp → VK → Prop) (to : TE) : TE := fun σ H Q => to σ H fun x H1 => (tyV K T1 x H1 ∧ r1 x [] H1 Q) ∨ (tyV K T2 x H1 ∧ r2 x [] H1 Q)
theorem kx_clearU {X : Cx} (K : PySem.W.Frag) (hK : X.K = K) {o : Expr} {to : TE} {apos cpos : Pos} (ho : PE X o to)
    (hbase : attributeBase o "clear" X.env (eval o X.env) = eval o X.env := by rfl) (hline : (apos.endLine == cpos.line) = true := by rfl) : PE X (.Call (.Attribute o "clear" apos) [] [] cpos) (tBM0U K "list" "dict" rClear rDClear to) := by
  subst hK
  refine ⟨fun pins s σ H Q I h => ?_⟩
  refine wpAny_Call_method0_late hbase hline (thn (ho.run pins s σ H _ I h) fun v s1 ⟨x, H1, I1, r1, q⟩ => ?_)
  rcases q with ⟨ty, q1⟩ | ⟨ty, q1⟩
  · obtain ⟨h1, h2⟩ := tyV_is I1 r1 ty
    exact ⟨"list", "list.clear", PySem.F.plainAttrs_list, PySem.F.slot_list_clear, PySem.F.type_list_clear, h1, h2, Calls.callWith_builtin rfl (PySem.evalArgs_none (mt_clear pins s1 σ H1 x [] v [] Q I1 r1 .nil q1))⟩
  · obtain ⟨h1, h2⟩ := tyV_is I1 r1 ty
    exact ⟨"dict", "dict.clear", PySem.F.plainAttrs_dict, PySem.F.slot_dict_clear, PySem.F.type_dict_clear, h1, h2, Calls.callWith_builtin rfl (PySem.evalArgs_none (mtd_clear pins s1 σ H1 x [] v [] Q I1 r1 .nil q1))⟩
section
variable {K : PySem.W.Frag} {δ : List (Option D)} {m : Mem} {Q : D → Mem → Prop} {te : TE} {p : Addr} {ds : List D}
theorem MUp.at_ {c c' : Cell} {m' : Mem} (h : MUp m p c c' m') : MAt m p c := let ⟨i, h, _⟩ := h; ⟨i, h⟩
theorem ew_clearU (h : EW K te δ m fun x m1 => ∃ p m2, x = .adr p ∧ ((∃ ds, MUp m1 p (.lst ds) (.lst []) m2) ∨ ∃ kvs, MUp m1 p (.dic kvs) (.dic []) m2) ∧ Q .non m2) : EW K (tBM0U K "list" "dict" rClear rDClear te) δ m Q := fun σ H s M QQ k =>
  h σ H s M _ fun x m1 v H1 ⟨p, m2, ex, hu, q⟩ s1 M1 r1 => by
    subst ex
    rcases hu with ⟨ds, hu⟩ | ⟨kvs, i, hm, em⟩
    · refine .inl ⟨ty_A (MUp.at_ hu) H1 v M1 r1, ma_clr hu q H1 v [] M1 r1 .nil QQ fun d m' w H' q s M r => k d m' w H' q (s1.trans s) M r⟩
    · cases r1
      obtain ⟨xs, e, n, r⟩ := dicM_at M1 hm
      subst em
      obtain ⟨M2, s2⟩ := set_cell (c' := .dic []) (o := .dK []) M1 hm ⟨[], upd_same, rfl, .nil⟩
      exact .inr ⟨.inr (.inr (.inl ⟨rfl, .inl ⟨xs, e⟩⟩)), p, xs, rfl, rfl, e, k .non _ .non _ q (s1.trans s2) M2 .non⟩
end
/-! ### unpacking a list -/
theorem kx_unl {X : Cx} (K : PySem.W.Frag) (hK : X.K = K) {es : List Expr} {kk : Nat} {pos : Pos} {t : TGs} {n : Nat} (hc : X.calm = true) (h : PGs X es t) (hn : (assignEach es X.env).length = n := by rfl) (hst : (assignEach es X.env).findIdx? (·.1) = none := by rfl) : PG X (.Tuple es kk pos) (gUnl K n t) := by subst hK; exact pg_unl hc h hn hst
theorem gw_unl {K : PySem.W.Frag} {δ : List (Option D)} {m : Mem} {n : Nat} {gs : TGs} {x : D} {ds : List D} {Q : List (Option D) → Mem → Prop} (hx : SeqIn m x ds) (hn : ds.length = n) (h : GsW K gs ds δ m Q) : GW K (gUnl K n gs) x δ m Q := fun σ H v s M r QQ k => by
  obtain ⟨a, xs, rfl, e, r1⟩ := hx.get M r
  exact ⟨a, xs, rfl, SqL.of e, by rw [r1.length]; exact hn, h σ H xs s M r1 QQ k⟩
/-! ### the text of a list of indexes -/
def shN (ns : List Nat) : Str := (PyData.list (D.pyL (ns.map natD))).shown
theorem shw_N {ns : List Nat} (l : ns.length ≤ 1000) (b : ∀ n ∈ ns, n < 10 ^ 9) : Shw 1 15003 (.list (D.pyL (ns.map natD))) := by
  have e : D.pyL (ns.map natD) = ns.map fun n => PyData.int (n : Nat) := by
    rw [pyL_map, List.map_map]
    refine List.map_congr_left fun x _ => ?_
    show (natD x).py = _
    simp only [D.py]
  rw [e]
  refine (Shw.list (n := 0) (B := 13) fun x hx => ?_).up (Nat.le_refl _) (by rw [List.length_map]; omega)
  obtain ⟨n, hn, rfl⟩ := List.mem_map.mp hx
  have := b n hn
  exact Shw.int (by omega)
theorem res_N {K : PySem.W.Frag} {m : Mem} {ns : List Nat} {x : D} (hx : SeqIn m x (ns.map natD)) : Res K m x (.list (D.pyL (ns.map natD))) := by
  refine Res.seq hx (resL_fl (n := 0) ?_)
  rw [List.all_eq_true]
  intro d hd
  obtain ⟨n, _, rfl⟩ := List.mem_map.mp hd
  rfl
theorem cN_show {K : PySem.W.Frag} {m : Mem} {Q : D → Mem → Prop} {ns : List Nat} {x : D} (hx : SeqIn m x (ns.map natD)) (l : ns.length ≤ 1000) (b : ∀ n ∈ ns, n < 10 ^ 9) (q : Q (.str (shN ns)) m) : CW K (rRepr K) [x] m Q := by
  refine cw_show (res_N hx) ?_ (shw_N l b) (by decide) (by decide) q
  rcases hx with rfl | ⟨p, rfl, _⟩
  · exact .inl ⟨_, rfl⟩
  · exact .inr (.inr ⟨p, rfl⟩)
theorem sOk_iff {x : Str} : PyData.strOk x = true ↔ ∀ c ∈ x.cps.toList, c < 1114112 := by
  unfold PyData.strOk
  rw [Array.all_eq_true']
  exact ⟨fun h c hc => of_decide_eq_true (h c (by simpa using hc)), fun h c hc => decide_eq_true (h c (by simpa using hc))⟩
theorem sOk_app {a b : Str} (ha : PyData.strOk a = true) (hb : PyData.strOk b = true) : PyData.strOk (a ++ b) = true := by
  rw [sOk_iff] at *
  intro c hc
  rw [show (a ++ b).cps.toList = a.cps.toList ++ b.cps.toList by show (a.cps ++ b.cps).toList = _; simp] at hc
  rcases List.mem_append.mp hc with h | h
  · exact ha c h
  · exact hb c h
theorem sOk_of (s : String) : PyData.strOk (Str.ofString s) = true := by
  rw [Str.ofString_eq_byList, sOk_iff]
  intro c hc
  have hc : c ∈ (s.toList.map Char.toNat).toArray.toList := hc
  rw [List.toList_toArray] at hc
  obtain ⟨d, _, rfl⟩ := List.mem_map.mp hc
  have := d.valid
  unfold UInt32.isValidChar Nat.isValidChar at this
  show d.val.toNat < _
  omega
theorem sOk_txt : ∀ (ts : List Str) (k : Nat) (acc : Str), PyData.strOk acc = true → (∀ t ∈ ts, PyData.strOk t = true) → PyData.strOk (textFrom k acc ts) = true
  | [], _, _, h, _ => h
  | t :: ts, k, acc, h, g => sOk_txt ts (k + 1) _ (sOk_app (sOk_app h (by split <;> exact sOk_of _)) (g t List.mem_cons_self)) fun x hx => g x (List.mem_cons_of_mem _ hx)
theorem shownAll_map : ∀ xs : List PyData, PyData.shownAll xs = xs.map PyData.shown
  | [] => by simp only [PyData.shownAll, List.map_nil]
  | x :: xs => by simp only [PyData.shownAll, List.map_cons, shownAll_map xs]
theorem sOk_list {xs : List PyData} (h : ∀ x ∈ xs, PyData.strOk x.shown = true) : PyData.strOk (PyData.list xs).shown = true := by
  simp only [PyData.shown, listText]
  refine sOk_app (sOk_txt _ _ _ (sOk_of _) fun t ht => ?_) (sOk_of _)
  rw [shownAll_map] at ht
  obtain ⟨x, hx, rfl⟩ := List.mem_map.mp ht
  exact h x hx
theorem shN_ok (ns : List Nat) : PyData.strOk (shN ns) = true := by
  refine sOk_list fun x hx => ?_
  rw [pyL_map, List.map_map] at hx
  obtain ⟨n, _, rfl⟩ := List.mem_map.mp hx
  show PyData.strOk (natD n).py.shown = true
  simp only [D.py, PyData.shown]
  exact sOk_of _
theorem res_S {K : PySem.W.Frag} {m : Mem} {ws : List Str} {x : D} (hx : SeqIn m x (ws.map .str)) (h : ∀ w ∈ ws, PyData.strOk w = true) : Res K m x (D.lst (ws.map .str)).py := by
  have e : (D.lst (ws.map .str)).py = .list (D.pyL (ws.map .str)) := by simp only [D.py]
  rw [e]
  refine Res.seq hx (resL_fl (n := 0) ?_)
  rw [List.all_eq_true]
  intro d hd
  obtain ⟨w, hw, rfl⟩ := List.mem_map.mp hd
  exact h w hw
theorem nb_S {ws : List Str} (h : ∀ w ∈ ws, PyData.strOk w = true) : (D.lst (ws.map .str)).nb 1 = true := by
  show (ws.map D.str).all (D.nb 0) = true
  rw [List.all_eq_true]
  intro d hd
  obtain ⟨w, hw, rfl⟩ := List.mem_map.mp hd
  exact h w hw
/-- two lists of the same texts, wherever they stand -/
theorem oS_neSame {K : PySem.W.Frag} {m : Mem} {Q : D → Mem → Prop} {ws : List Str} {x y : D} (hx : SeqIn m x (ws.map .str)) (hy : SeqIn m y (ws.map .str)) (h : ∀ w ∈ ws, PyData.strOk w = true) (q : Q (.bl false) m) : OW K (rNeU K) x y m Q :=
  oq_neR 1 (res_S hx h) (res_S hy h) (nb_S h) (nb_S h) fun b hb => by rw [hb.mpr rfl]; exact q
theorem oS_eqSame {K : PySem.W.Frag} {m : Mem} {Q : D → Mem → Prop} {ws : List Str} {x y : D} (hx : SeqIn m x (ws.map .str)) (hy : SeqIn m y (ws.map .str)) (h : ∀ w ∈ ws, PyData.strOk w = true) (q : Q (.bl true) m) : OW K (rEqU K) x y m Q :=
  oq_eqR 1 (res_S hx h) (res_S hy h) (nb_S h) (nb_S h) fun b hb => by rw [hb.mpr rfl]; exact q
/-- a pair, the first of it the last cell: that is data from now on -/
theorem ew_dataT {K : PySem.W.Frag} {δ : List (Option D)} {m : Mem} {Q : D → Mem → Prop} {te : TE} (h : EW K te δ m fun x m1 => ∃ p c d y m2, x = .tup [.adr p, y] ∧ m1.Perm (m2 ++ [(p, c)]) ∧ c.d = some d ∧ Q (.tup [d, y]) m2) : EW K te δ m Q :=
  fun σ H s M QQ k => h σ H s M _ fun x m1 v H1 ⟨p, c, d, y, m2, e1, e2, ec, q⟩ s1 M1 r1 => by
    subst e1
    have M1 := M1.perm e2
    rw [hide_perm e2] at s1 r1
    obtain ⟨M2, sb, hp⟩ := M1.drop
    cases r1 with
    | tup e r =>
      cases r with
      | cons r1 r2 =>
        cases r1
        exact k _ m2 _ H1 q (s1.trans sb) M2 (.tup (sb.sqt e) (.cons (still_of (M1.at_ p c (by simp)) ec sb hp) (r2.mono sb)))
/-! ### raising terms within others -/
section
variable {K : PySem.W.Frag} {δ : List (Option D)} {m : Mem} {Q : D → Mem → Prop} {te : WX → TE} {tb : TE} {P : Ps} {R : XS} {g : TG}
theorem ewx_op1 {r : R2} (h : EWX K te R δ m fun x m1 => EW K tb δ m1 fun y m2 => OW K r x y m2 Q) : EWX K (fun W => tOp r (te W) tb) R δ m Q := fun σ H s M QQ k W kx =>
  h σ H s M _ (fun x m1 v1 H1 q1 s1 M1 r1 => q1 σ H1 (s.mono s1) M1 _ fun y m2 v2 H2 q2 s2 M2 r2 => q2 H2 v1 v2 M2 (r1.mono s2) r2 _ fun d m3 v3 H3 q3 s3 M3 r3 => k d m3 v3 H3 q3 (s1.trans (s2.trans s3)) M3 r3) W kx
theorem swx_asgG (h : EWX K te R δ m fun d m1 => GW K g d δ m1 P.nx) : SWX K (fun W => tAsg (te W) g) R δ m P := fun σ H s M E k W kx =>
  h σ H s M _ (fun d m1 v H1 q1 s1 M1 r1 => q1 σ H1 v (s.mono s1) M1 r1 _ fun δ2 m2 σ2 H2 q2 s2 S2 M2 => k.nx δ2 m2 σ2 H2 q2 (s1.trans s2) S2 M2) W kx
theorem ewx_free (h : EWX K te R δ m fun d m1 => ∃ m2, Gb m2 m1 ∧ Q d m2) : EWX K te R δ m Q := fun σ H s M QQ k W kx =>
  h σ H s M _ (fun d m1 v H1 ⟨m2, g, q⟩ s1 M1 r1 => let ⟨M2, s2⟩ := M1.gb g; k d m2 v H1 q (s1.trans s2) M2 (r1.mono s2)) W kx
theorem ewx_data (h : EWX K te R δ m fun x m1 => ∃ p c d m2, x = .adr p ∧ m1.Perm (m2 ++ [(p, c)]) ∧ c.d = some d ∧ Q d m2) : EWX K te R δ m Q := fun σ H s M QQ k W kx =>
  h σ H s M _ (fun x m1 v H1 ⟨p, c, d, m2, e1, e2, ec, q⟩ s1 M1 r1 => by
    subst e1
    have M1 := M1.perm e2
    rw [hide_perm e2] at s1
    cases r1
    obtain ⟨M2, sb, hp⟩ := M1.drop
    exact k d m2 _ H1 q (s1.trans sb) M2 (still_of (M1.at_ p c (by simp)) ec sb hp)) W kx
theorem ewx_dataT (h : EWX K te R δ m fun x m1 => ∃ p c d y m2, x = .tup [.adr p, y] ∧ m1.Perm (m2 ++ [(p, c)]) ∧ c.d = some d ∧ Q (.tup [d, y]) m2) : EWX K te R δ m Q :=
  fun σ H s M QQ k W kx => h σ H s M _ (fun x m1 v H1 ⟨p, c, d, y, m2, e1, e2, ec, q⟩ s1 M1 r1 => by
    subst e1
    have M1 := M1.perm e2
    rw [hide_perm e2] at s1 r1
    obtain ⟨M2, sb, hp⟩ := M1.drop
    cases r1 with
    | tup e r =>
      cases r with
      | cons r1 r2 =>
        cases r1
        exact k _ m2 _ H1 q (s1.trans sb) M2 (.tup (sb.sqt e) (.cons (still_of (M1.at_ p c (by simp)) ec sb hp) (r2.mono sb)))) W kx
end
/-! ### list(range(a, b)) -/
section
variable {K : PySem.W.Frag} {δ : List (Option D)} {m : Mem} {Q : D → Mem → Prop} {ta tb : TE}
theorem rg_rd2 {F : Hp} {lo n : Nat} : RdL K F (rgV (lo : Nat) ((lo + n : Nat) : Int)) ((List.range' lo n).map natD) := by
  have e : rgV (lo : Nat) ((lo + n : Nat) : Int) = (List.range' lo n).map fun i => V.int ((i : Nat) : Int) := by
    unfold rgV
    rw [show (((lo + n : Nat) : Int) - (lo : Nat)).toNat = n by omega, List.range'_eq_map_range, List.map_map]
    refine List.map_congr_left fun i _ => ?_
    show V.int _ = V.int ((lo + i : Nat) : Int)
    congr 1
  rw [e]
  generalize List.range' lo n = l
  induction l with
  | nil => exact .nil
  | cons a l ih => exact .cons (.int _) ih
theorem ew_listRg2 (h : EW K ta δ m fun x m1 => EW K tb δ m1 fun y m2 => ∃ lo n : Nat, x = .int (lo : Nat) ∧ y = .int ((lo + n : Nat) : Int) ∧ lo + n ≤ 16777216 ∧ Q (.lst ((List.range' lo n).map natD)) m2) : EW K (tLstRg (tRg2 ta tb)) δ m Q := fun σ H s M QQ k =>
  h σ H s M _ fun x m1 v1 H1 q1 s1 M1 r1 => q1 σ H1 (s.mono s1) M1 _ fun y m2 v2 H2 ⟨lo, n, ex, ey, hn, q⟩ s2 M2 r2 => by
    subst ex
    subst ey
    cases r1
    cases r2
    refine ⟨_, _, rfl, rfl, ⟨by omega, by omega, by omega, by omega, by omega⟩, fun z hz => ?_⟩
    obtain ⟨M3, s3, r3⟩ := new_lst M2 (rg_rd2 (lo := lo) (n := n)) hz
    exact k _ m2 _ _ q (s1.trans (s2.trans s3)) M3 r3
end
end DL

set_option Elab.async false
set_option linter.all false
set_option maxRecDepth 100000
set_option maxHeartbeats 1000000
set_option autoImplicit false
/-! == and != of lists of instances with an own ==, where they are equal. -/
namespace DL
open PySem PySem.Spec PyProof.Rows L2 LamX SrtO
section
open MeetsSeq MeetsSeq2 MeetsSeq3 SeqRoads2
open AutoSeq1 (wpAny_loadPart')
variable {P : Program} {w : World} {A : Around} {RR : Result → Shared → Prop}
theorem unlike_loop (p q : Addr) (N : Nat) (J : Nat → Shared → Prop) (hl : GQ.ListI P w A (fun e s' => RR (.error e) s') p q N J)
    (fin : ∀ s, J N s → RR (.ok (.ret (.bool false))) s) : ∀ (k i : Nat), N - i = k → i ≤ N → ∀ s, J i s →
      wpAny (model P w) A.in1 (Builtin.«list.__eq__.loop» ⟨[.ref p, .ref q, rawInt i, rawInt 3], []⟩) (GQ.FinOf P w A RR) (fun e s' => RR (.error e) s') s
  | 0, i, hk, hi, s, h => by
    obtain ⟨as, bs, na, nb, oa, ob, la, lb, _⟩ := hl _ _ h
    have ei : i = N := by omega
    have out := fin s (ei ▸ h)
    obtain ⟨hp, g, d, tk, os⟩ := s
    wp_walk using wpAny_loadPart' oa, wpAny_loadPart' ob
    have z1 : as[((i : Nat) : Int).toNat]? = none := by simp; omega
    have z2 : bs[((i : Nat) : Int).toNat]? = none := by simp; omega
    rw [z1, z2]
    wp_walk using wpAny_loadPart' oa, wpAny_loadPart' ob
    show RR (.ok (.ret (.bool (as.size != bs.size)))) _
    rw [la, lb]
    simpa using out
  | k + 1, i, hk, hi, s, h => by
    obtain ⟨as, bs, na, nb, oa, ob, la, lb, turn⟩ := hl _ _ h
    have ia : i < as.size := by omega
    have ib : i < bs.size := by omega
    have go := turn ia ib
    obtain ⟨hp, g, d, tk, os⟩ := s
    wp_walk using wpAny_loadPart' oa, wpAny_loadPart' ob
    have z1 : as[((i : Nat) : Int).toNat]? = some as[i] := by simp [ia]
    have z2 : bs[((i : Nat) : Int).toNat]? = some bs[i] := by simp [ib]
    have ec : ((i : Int) + 1) = ((i + 1 : Nat) : Int) := by omega
    rw [z1, z2]
    refine wpAny_bind (wpAny_mono go (fun r s2 h2 => ?_) fun _ _ x => x)
    obtain ⟨er, h2⟩ := h2
    subst er
    have more := unlike_loop p q N J hl fin k (i + 1) (by omega) (by omega) s2 h2
    obtain ⟨hp2, g2, d2, tk2, os2⟩ := s2
    wp_walk
    rw [ec]
    exact ⟨plainId_quiet plain_eq_loop _, codeAny_builtin entry_eq_loop (by
      rw [Around.under_plainId plain_eq_loop _]
      exact more)⟩
theorem unlike_lists {E : Value → Shared → Prop} {s : Shared} {p q : Addr} {N : Nat} {Q : Value → Shared → Prop} (hu : A.units < cLine) (J : Nat → Shared → Prop) (hl : GQ.ListI P w A E p q N J)
    (fin : ∀ s, J N s → Q (.bool false) s) (h : J 0 s) : wpAny (model P w) A (richCompare .NotEq (.ref p) (.ref q)) Q E s := by
  obtain ⟨as, bs, na, nb, oa, ob, la, lb, _⟩ := hl _ _ h
  refine wpAny_richCompare_same_room (op := .NotEq) ⟨_, oa, rfl⟩ ⟨_, ob, rfl⟩ F.slot_list_ne (GQ.call_here F.slot_list_ne ⟨_, oa, rfl⟩ F.entry_list_ne (F.args_list_ne_2 _ _) ?_) hu
  have more := unlike_loop (A := A) (RR := wants (fun v s' => v ≠ .notImplemented ∧ Q v s') E) p q N J hl (fun s' z => ⟨(fun x => nomatch x), fin s' z⟩) _ 0 rfl (Nat.zero_le _) s h
  obtain ⟨hp, g, d, tk, os⟩ := s
  have f3 := AutoSeq1.sub_list_list
  have same : ¬ (as.size != bs.size) = true := by simp [la, lb]
  wp_walk using wpAny_loadPart' oa, wpAny_loadPart' ob
  exact ⟨plainId_quiet plain_eq_loop _, codeAny_builtin entry_eq_loop (by
    rw [Around.under_plainId plain_eq_loop _]
    exact more)⟩
end
def rNeG (D : Eqv) : R2 := fun x y H Q => D x y H ∧ ∀ H', Ext H H' → Q (.bl false) H'
theorem op_neG {X : Cx} {n : Nat} {D : Eqv} (hD : Mon D) (h : EqG X n D) (hr : Room (n + 1) X.A) : OpR X (compareOp .NotEq) (rNeG (DList D)) := by
  intro pins s σ H x y v u Q I rx ry hq
  obtain ⟨⟨a, b, xs, ys, rfl, rfl, ha, hb, p⟩, q⟩ := hq
  cases rx
  cases ry
  show wpAny (model X.prog X.w) X.A (richCompare .NotEq (.ref a) (.ref b)) (EP X pins σ Q) X.xe s
  refine unlike_lists (N := xs.length) hr.units0 (fun _ s' => LoopI X pins σ H s') (fun i s' z => ?_) (fun s' z => ?_) ⟨H, I, Ext.rfl'⟩
  · obtain ⟨H1, I1, e1⟩ := id z
    obtain ⟨zl, its, k, r, e⟩ := I1.hok a _ (e1 _ _ ha)
    obtain ⟨zr, its2, k2, r2, e2⟩ := I1.hok b _ (e1 _ _ hb)
    refine ⟨its.toArray, its2.toArray, k, k2, e, e2, by rw [List.size_toArray, ← r.length], by rw [List.size_toArray, ← r2.length, ← p.1], fun h1 h2 => ?_⟩
    exact turnG hD h ⟨hr, rfl⟩ p r r2 i h1 h2 s' z
  · obtain ⟨H1, I1, e1⟩ := z
    exact ⟨.bl false, H1, I1, rfl, q H1 e1⟩
/-- two instances, equal by their own == -/
def EqR (K : PySem.W.Frag) (Pf : FS) : Addr → Addr → Hp → Prop := fun a b H => ∃ ds, RdL K H [V.ref a, V.ref b] ds ∧ Pf ds [] fun d _ => d = .bl true
theorem hide_zero (H : Hp) : hide [] H = H := by
  funext a
  exact hide_out (by simp)
theorem eqR_mon {K : PySem.W.Frag} {Pf : FS} (a b : Addr) (H H' : Hp) (e : Ext H H') (h : EqR K Pf a b H) : EqR K Pf a b H' := let ⟨ds, r, q⟩ := h; ⟨ds, r.mono e, q⟩
theorem eqR_sp {K : PySem.W.Frag} {Pf : FS} (vs : List V) (H : Hp) (Q : VK) (E : XK) (h : spEq (EqR K Pf) vs H Q E) : spOf K Pf vs H Q E := by
  obtain ⟨a, b, rfl, ⟨ds, r, pf⟩, q⟩ := h
  refine ⟨ds, [], _, by rw [hide_zero]; exact r, ⟨List.nodup_nil, fun p c h => by cases h⟩, pf, fun d m' v H' e s M rd => ?_⟩
  subst e
  cases rd
  exact q H' fun a o h => hide_le a o (s a o (by rw [hide_zero]; exact h))
section
variable {X : Cx} {k : Nat} {f C : Addr} {ps : List Str} {Pf : FS}
theorem eqG_own (hs : PySem.W.findIn X.K (.ref C) "__eq__" = some (some (.ref f)) ∧ PySem.W.isFn X.K (.ref f) = true) (D : Def X.prog X.w X.K X.mg X.base k f ps Pf) : EqG X k (DIns C (EqR X.K Pf)) := by
  obtain ⟨fd, F, hb, _⟩ := D
  exact eqG_ins (F.imp fun vs H Q E h => eqR_sp vs H Q E h) hs.1 hs.2 hb (E := E0) fun _ _ _ _ _ _ _ h => h.elim
end
theorem kx_eqOL {X : Cx} {k : Nat} {f C : Addr} {ps : List Str} {Pf : FS} (K : PySem.W.Frag) (hK : X.K = K) (hs : PySem.W.findIn K (.ref C) "__eq__" = some (some (.ref f)) ∧ PySem.W.isFn K (.ref f) = true) (D : Def X.prog X.w K X.mg X.base k f ps Pf) (hr : Room (k + 1) X.A) : OpR X (compareOp .Eq) (rEqG (DList (DIns C (EqR K Pf)))) := by
  subst hK
  exact op_eqG (rcG_list (mon_ins eqR_mon) (eqG_own hs D)) hr
theorem kx_neOL {X : Cx} {k : Nat} {f C : Addr} {ps : List Str} {Pf : FS} (K : PySem.W.Frag) (hK : X.K = K) (hs : PySem.W.findIn K (.ref C) "__eq__" = some (some (.ref f)) ∧ PySem.W.isFn K (.ref f) = true) (D : Def X.prog X.w K X.mg X.base k f ps Pf) (hr : Room (k + 1) X.A) : OpR X (compareOp .NotEq) (rNeG (DList (DIns C (EqR K Pf)))) := by
  subst hK
  exact op_neG (mon_ins eqR_mon) (eqG_own hs D) hr
section
variable {K : PySem.W.Frag} {m : Mem} {Q : D → Mem → Prop} {C : Addr} {Pf : FS} {ds es : List D}
theorem mem_ext {H H' : Hp} (M : MemOk K m H) (e : Ext H H') : MemOk K m H' ∧ Sub (hide m H) (hide m H') := by
  have sb : Sub (hide m H) (hide m H') := fun a o h => by
    have n : a ∉ m.map Prod.fst := fun z => by rw [hide_in z] at h; cases h
    rw [hide_out n] at h ⊢
    exact e a o h
  refine ⟨⟨M.nd, fun p c h => ?_⟩, sb⟩
  have hc := M.at_ p c h
  refine CellAt.mono hc sb ?_
  have : ∃ o, H p = some o := by
    cases c with
    | lst => obtain ⟨_, q, _⟩ := hc; exact ⟨_, q⟩
    | dic => obtain ⟨_, q, _⟩ := hc; exact ⟨_, q⟩
    | ins => obtain ⟨_, _, q, _⟩ := hc; exact ⟨_, q⟩
    | xd => obtain ⟨_, q, _⟩ := hc; exact ⟨_, q⟩
    | obj => exact ⟨_, hc⟩
    | tbl => obtain ⟨_, q, _⟩ := hc; exact ⟨_, q⟩
  obtain ⟨o, q⟩ := this
  rw [q, e _ _ q]
theorem own_pair (hl : ds.length = es.length) (h : ∀ (i : Nat) (d e : D), ds[i]? = some d → es[i]? = some e → ∃ fs gs, d = .ins C fs ∧ e = .ins C gs ∧ Pf [d, e] [] fun r _ => r = .bl true) {H : Hp} {v w : V} (a : Rd K (hide m H) v (.lst ds)) (b : Rd K (hide m H) w (.lst es)) : DList (DIns C (EqR K Pf)) v w H := by
  obtain ⟨p, xs, rfl, e1, r1⟩ := lst_at a
  obtain ⟨p', ys, rfl, e2, r2⟩ := lst_at b
  refine ⟨p, p', xs, ys, rfl, rfl, e1, e2, by rw [r1.length, r2.length, hl], fun i x y hx hy => ?_⟩
  obtain ⟨d, hd, rd⟩ := r1.get' hx
  obtain ⟨e, he, re⟩ := r2.get' hy
  obtain ⟨fs, gs, rfl, rfl, pf⟩ := h i d e hd he
  obtain ⟨xa, dx, fx, rfl, o1, _, _⟩ := ins_at rd
  obtain ⟨ya, dy, fy, rfl, o2, _, _⟩ := ins_at re
  exact ⟨xa, ya, dx, dy, fx, fy, rfl, rfl, o1, o2, _, .cons (rd.mono hide_le) (.cons (re.mono hide_le) .nil), pf⟩
theorem ow_eqOL (hl : ds.length = es.length) (h : ∀ (i : Nat) (d e : D), ds[i]? = some d → es[i]? = some e → ∃ fs gs, d = .ins C fs ∧ e = .ins C gs ∧ Pf [d, e] [] fun r _ => r = .bl true) (q : Q (.bl true) m) : OW K (rEqG (DList (DIns C (EqR K Pf)))) (.lst ds) (.lst es) m Q :=
  fun H v w M a b QQ k => ⟨own_pair hl h a b, fun H' ex => let ⟨M2, sb⟩ := mem_ext M ex; k (.bl true) m _ H' q sb M2 (.bl true)⟩
theorem ow_neOL (hl : ds.length = es.length) (h : ∀ (i : Nat) (d e : D), ds[i]? = some d → es[i]? = some e → ∃ fs gs, d = .ins C fs ∧ e = .ins C gs ∧ Pf [d, e] [] fun r _ => r = .bl true) (q : Q (.bl false) m) : OW K (rNeG (DList (DIns C (EqR K Pf)))) (.lst ds) (.lst es) m Q :=
  fun H v w M a b QQ k => ⟨own_pair hl h a b, fun H' ex => let ⟨M2, sb⟩ := mem_ext M ex; k (.bl false) m _ H' q sb M2 (.bl false)⟩
end
end DL

set_option Elab.async false
set_option linter.all false
set_option maxRecDepth 100000
set_option maxHeartbeats 1000000
set_option autoImplicit false
/-! list(d.items()), d a dict as data. -/
namespace DL
open PySem PySem.Spec PyProof.Rows L2 LamX SrtO
section
variable {K : PySem.W.Frag} {δ : List (Option D)} {m : Mem} {Q : D → Mem → Prop} {te : TE}
theorem items_rd {F : Hp} : ∀ {ts : List Addr} {xs : List (Key × V)} {kvs : List (Key × D)}, Paired (fun (t : Addr) (q : Key × V) => F t = some (.tup [kV q.1, q.2])) ts xs → xs.map Prod.fst = kvs.map Prod.fst → RdL K F (xs.map Prod.snd) (kvs.map Prod.snd) → RdL K F (ts.map V.ref) (kvs.map pairKD)
  | _, _, [], .nil, _, _ => .nil
  | _, _, kv :: kvs, .nil, h, _ => by cases h
  | _, _, [], .cons a b, h, _ => by cases h
  | t :: ts, x :: xs, kv :: kvs, .cons a b, h, r => by
    rw [List.map_cons, List.map_cons] at h
    injection h with h1 h2
    cases r with
    | cons r1 r2 =>
      refine .cons ?_ (items_rd b h2 r2)
      refine .tup (.inl (.inl a)) (.cons ?_ (.cons r1 .nil))
      rw [h1]
      cases kv.1 with
      | inl i => exact .int i
      | inr s => exact .str s
theorem ew_items (h : EW K te δ m fun x m1 => ∃ kvs : List (Key × D), x = .dic kvs ∧ Q (.lst (kvs.map pairKD)) m1) : EW K (LiI.tListItems te) δ m Q := fun σ H s M QQ k =>
  h σ H s M _ fun x m1 v H1 ⟨kvs, ex, q⟩ s1 M1 r1 => by
    subst ex
    have r1' := r1
    cases r1' with
    | dic e nk r =>
      rename_i d xs
      refine ⟨d, xs, rfl, hide_le _ _ e, fun H' p ts ext hp hts hn hl pr => ?_⟩
      obtain ⟨M2, sb⟩ := mem_ext M1 ext
      have out : ∀ t, H1 t = none → t ∉ m1.map Prod.fst := fun t ht hm => by
        obtain ⟨⟨t', c⟩, hc, rfl⟩ := List.mem_map.mp hm
        have hcell := M1.at_ t' c hc
        have : ∃ o, H1 t' = some o := by
          cases c with
          | lst => obtain ⟨_, q, _⟩ := hcell; exact ⟨_, q⟩
          | dic => obtain ⟨_, q, _⟩ := hcell; exact ⟨_, q⟩
          | ins => obtain ⟨_, _, q, _⟩ := hcell; exact ⟨_, q⟩
          | xd => obtain ⟨_, q, _⟩ := hcell; exact ⟨_, q⟩
          | obj => exact ⟨_, hcell⟩
          | tbl => obtain ⟨_, q, _⟩ := hcell; exact ⟨_, q⟩
        obtain ⟨o, q⟩ := this
        rw [q] at ht
        cases ht
      refine k _ m1 _ H' q (s1.trans sb) M2 (.lst (by rw [hide_out (out p hp)]; exact hl) (items_rd ?_ nk (r.mono sb)))
      have gen : ∀ {ts : List Addr} {xs : List (Key × V)}, Paired (fun (t : Addr) (q : Key × V) => H' t = some (.tup [kV q.1, q.2])) ts xs → (∀ t ∈ ts, H1 t = none) → Paired (fun (t : Addr) (q : Key × V) => hide m1 H' t = some (.tup [kV q.1, q.2])) ts xs := by
        intro ts xs pr
        induction pr with
        | nil => intro _; exact .nil
        | cons a b ih => intro hts; exact .cons (by rw [hide_out (out _ (hts _ List.mem_cons_self))]; exact a) (ih fun t ht => hts t (List.mem_cons_of_mem _ ht))
      exact gen pr hts
end
end DL

set_option Elab.async false
set_option linter.all false
set_option maxRecDepth 100000
set_option maxHeartbeats 1000000
set_option autoImplicit false
/-! Defs that raise and that come to repr: entered where no guard is up. -/
namespace DL
open PySem PySem.Spec PyProof.Rows L2
structure FnGX (P : Program) (w : World) (K : PySem.W.Frag) (mg : Str → Option Value) (base : Heap) (CX : CXT) (k : Nat) (f : Addr) (fd : FuncData) (ps : List Str) (sp : Sp) : Prop where
  long : ∀ vs H Q E, sp vs H Q E → vs.length = ps.length
  go : ∀ (A : Around) (up : List Env) (s : Shared) (H : Hp) (args : Args) (us : List Value) (vs : List V) (Q : VK) (E : XK), A.guards = some [] → Room k A → Env0 P w K mg base A up s H → BindsTo s fd args (ps.zip us) → Vals vs us → sp vs H Q E →
    codeAny (model P w) A (.call (.ref f) args) (CR CX up P w H s Q E) s
section
variable {P : Program} {w : World} {K : PySem.W.Frag} {mg : Str → Option Value} {base : Heap} {f : Addr} {fd : FuncData} {ps : List Str} {sp : Sp} {k : Nat} {CX : CXT}
theorem FnGX.up {j : Nat} (F : FnGX P w K mg base CX j f fd ps sp) (h : j ≤ k) : FnGX P w K mg base CX k f fd ps sp := ⟨F.long, fun A up s H args us vs Q E hg hr => F.go A up s H args us vs Q E hg (hr.mono h)⟩
theorem FnGX.of (F : FnOk P w K mg base CX k f fd ps sp) : FnGX P w K mg base CX k f fd ps sp := ⟨F.len, fun A up s H args us vs Q E _ hr => F.run A up s H args us vs Q E hr⟩
theorem fn_inGX {name qual : Str} {params : Arguments} {body : List Stmt} {scope : Scope} {dV kV doc pm cdv ct oc : Value} {an od : Option Addr} {osl : Array (Option Value)} {N : List Str}
    (lk : K.lookup f = some ⟨oc, od, .func (PySem.W.fnOf name qual params body scope dV kV doc pm an cdv ct), osl⟩) (hcd : PySem.W.codeIn K cdv qual = true) (S : FnScope N ps scope) (long : ∀ vs H Q E, sp vs H Q E → vs.length = ps.length)
    (hb : ∀ (A : Around) (up : List Env) (s : Shared) (H : Hp) (vs : List V) (Q : VK) (E : XK), A.guards = some [] → Room k (A.deeper (envOfC qual scope s.heap.objs.size f cdv)) → sp vs H Q E →
      ∃ t, PSs (cxOf CX P w K mg base N qual scope f cdv A up s H E) body t ∧ t { nx := fun _ H' => Q .non H', rt := Q } (L2.start N vs) H) :
    FnGX P w K mg base CX (k + 1) f (PySem.W.fnOf name qual params body scope dV kV doc pm an cdv ct) ps sp := by
  refine ⟨long, ?_⟩
  intro A up s H args us vs Q E hg room e0 bind rel wish
  have n1 := long vs H Q E wish
  have kin : K.In s.heap := e0.mod.kin.keeps fun b o q => (e0.bs b o q).1
  have hlim : s.heap.NoLimit := e0.mod.nolimit.keeps fun b o q => (e0.bs b o q).1
  have kinds : ∀ y ∈ ps.zip us, scope.names.lookup y.1 = some .local ∨ (scope.names.lookup y.1 = some .cell ∧ ((cellsFrom (s.heap.objs.size + 1) scope.names []).lookup y.1).isSome = true) := by
    rintro ⟨n, v⟩ hy
    cases S.par n (List.of_mem_zip hy).1 with
    | inl a => exact Or.inl a
    | inr a => exact Or.inr ⟨a, PySem.W.cellsFrom_some _ _ _ (Or.inl a)⟩
  have enter := hb A up s H vs Q E hg (room.deeper _) wish
  obtain ⟨t, der, rdg⟩ := enter
  apply codeAny_call_function room.depth (kin _ _ lk) rfl S.co S.gen rfl (PySem.W.codeRec_of kin hcd)
  apply bind
  apply wpAny_newFunctionEnv_cells S.kind kinds
  intro env he s1 x
  cases he
  refine ⟨hlim.keeps x.toInCall.keep, ?_⟩
  apply codeAny_func
  have inv : Inv (cxOf CX P w K mg base N qual scope f cdv A up s H E) [] (L2.start N vs) H s1 := inv_start S room.hd e0 n1 rel x
  apply wpAny_mono (der.run [] s1 (L2.start N vs) H _ inv rdg)
  · intro fl s2 q
    have close : ∀ (σ2 : L2.St) (H2 : Hp) (v : V) (u : Value), Inv (cxOf CX P w K mg base N qual scope f cdv A up s H E) [] σ2 H2 s2 → RelV v u → Q v H2 → CE up P w H s Q u s2 := fun σ2 H2 v u J a b => ⟨v, H2, J.os, J.bare, J.base, J.hok, a, b⟩
    match fl, q with
    | .ret u, ⟨v, σ2, H2, J, a, b⟩ => exact close σ2 H2 v u J a b
    | .next, ⟨σ2, H2, J, b⟩ => exact close σ2 H2 V.non Value.none J rfl b
    | .brk, ⟨_, _, _, b⟩ => exact b.elim
    | .cont, ⟨_, _, _, b⟩ => exact b.elim
  · intro e s2 q
    exact q
end
section
variable {P : Program} {w : World} {K : PySem.W.Frag} {mg : Str → Option Value} {base : Heap} {k : Nat} {f : Addr} {ps : List Str} {Pf : FX}
def DefGX (P : Program) (w : World) (K : PySem.W.Frag) (mg : Str → Option Value) (base : Heap) (k : Nat) (f : Addr) (ps : List Str) (Pf : FX) : Prop := ∃ fd, FnGX P w K mg base (CX P w) k f fd ps (spX K Pf) ∧ Binds K fd ps [] ∧ FdAt K f fd
theorem DefGX.up {j : Nat} (h : DefGX P w K mg base j f ps Pf) (l : j ≤ k) : DefGX P w K mg base k f ps Pf := let ⟨fd, F, b⟩ := h; ⟨fd, F.up l, b⟩
theorem DefX.gx (h : DefX P w K mg base k f ps Pf) : DefGX P w K mg base k f ps Pf := let ⟨fd, F, b⟩ := h; ⟨fd, FnGX.of F, b⟩
/-- where it raises nothing -/
theorem DefGX.quiet (h : DefGX P w K mg base k f ps Pf) : DefG P w K mg base k f ps Pf.quiet := by
  obtain ⟨fd, F, b, e⟩ := h
  have up : ∀ {vs : List V} {H : Hp} {Q : VK} {E : XK}, spOf K Pf.quiet vs H Q E → spX K Pf vs H Q fun _ _ _ => False := fun {vs H Q E} ⟨ds, m, QS, r, M, p, q⟩ => ⟨ds, m, QS, _, r, M, p, q, fun _ _ _ _ _ z => z.elim⟩
  refine ⟨fd, ⟨fun vs H Q E q => F.long vs H Q _ (up q), fun A outer s H args us vs Q hg hr he hb hv q => codeAny_mono (F.go A outer s H args us vs Q _ hg hr he hb hv (up q)) fun r s' c => ?_⟩, b, e⟩
  match r, c with
  | .error e, c => obtain ⟨_, _, _, _, _, _, _, _, _, _, _, _, z⟩ := c; exact z.elim
  | .ok (.ret u), c => exact c
  | .ok .next, c => exact c
  | .ok .brk, c => exact c
  | .ok .cont, c => exact c
theorem defOkGX {x qual : Str} {st : Stmt} {N : List Str} (h : Has K x qual st f ps) (S : FnScope N ps (defScope st)) {t : WX → TS} (hlen : ∀ ds m Q R, Pf ds m Q R → ds.length = ps.length)
    (hd : ∀ (W : WX) (cdv : Value) (A : Around) (outer : List Env) (s : Shared) (H : Hp) (E : XK), A.guards = some [] → Room k (A.deeper (envOfC qual (defScope st) s.heap.objs.size f cdv)) → Takes (cxOf (CX P w) P w K mg base N qual (defScope st) f cdv A outer s H E) W →
      PassesOwn (model P w) (cxOf (CX P w) P w K mg base N qual (defScope st) f cdv A outer s H E).A (cxOf (CX P w) P w K mg base N qual (defScope st) f cdv A outer s H E).env (cxOf (CX P w) P w K mg base N qual (defScope st) f cdv A outer s H E).xe →
      ∃ t', PSs (cxOf (CX P w) P w K mg base N qual (defScope st) f cdv A outer s H E) (defBody st) t' ∧ t' = t W)
    (hs : ∀ ds m (Q : D → Mem → Prop) (R : Addr → D → Mem → Prop), Pf ds m Q R → SWX K t (fun _ => R) (startD N.length ds) m { nx := fun _ m' => Q .non m', rt := Q }) : DefGX P w K mg base (k + 1) f ps Pf := by
  obtain ⟨fd, F, b⟩ := h
  have F0 := F
  obtain ⟨oc, od, dV, kV, dc, pm, an, cd, ct, sl, rfl, hcd, lk⟩ := F.is
  refine ⟨_, fn_inGX lk hcd S (fun vs H Q E h => ?_) (fun A outer s H vs Q E hg hr h => ?_), b, Fnc.fdAt F0⟩
  · obtain ⟨ds, m, QS, R, r, _, p, _⟩ := h
    rw [r.length]
    exact hlen _ _ _ _ p
  · obtain ⟨t', der, et⟩ := hd (fun cls d _ H => E cls d H) _ A outer s H E hg hr (takes_of rfl rfl rfl rfl) (passes_of rfl)
    refine ⟨t', der, ?_⟩
    rw [et]
    obtain ⟨ds, m, QS, R, r, M, p, k, kx⟩ := h
    exact hs ds m QS R p _ _ (sl_start r) M _ ⟨fun δ' m' σ' H' q e s' M' => k .non m' .non H' q e M' .non, fun d m' v H' q e M' r' => k d m' v H' q e M' r', fun _ _ _ _ q => q.elim, fun _ _ _ _ q => q.elim⟩ _
      fun δ C x m' dd σ H' q e _ M' => kx C x m' dd H' q e M'
end
section
variable {X : Cx} {CX : CXT} {k n : Nat} {f C : Addr} {fd : FuncData} {ps ks : List Str} {sp : Sp} {E : XK} {g : List Value → List Value → List Value} {gV : List V → List V → List V}
theorem go_fnG {pins : List (Addr × Obj)} {σ : L2.St} {H : Hp} {s : Shared} {Q : VK} {us ws : List Value} {vs zs : List V} (hg0 : X.A.guards = some []) (F : FnGX X.prog X.w X.K X.mg X.base CX k f fd ps sp) (room : Room k X.A) (kb : KBn X.K fd ps n ks g gV) (out : PassesAt CX X σ E)
    (J : Inv X pins σ H s) (rv : Vals vs us) (rz : Vals zs ws) (len1 : vs.length = n) (len2 : zs.length = ks.length) (wish : sp (gV vs zs) H Q E) : wpAny (model X.prog X.w) X.A (call (.ref f) us (ks.zip ws)) (EP X pins σ Q) X.xe s := by
  apply wpAny_call
  have bound := kb.to s us ws J.kIn (by rw [← rv.length, len1]) (by rw [← rz.length, len2])
  refine codeAny_mono (F.go X.A X.stack s H _ _ _ Q E hg0 room J.env0 bound (kb.rel rv rz) wish) fun res s2 c => ?_
  match res, c with
  | .error er, c => exact out pins H s er s2 J c
  | .ok (.ret u), c => exact J.after c
  | .ok .next, c => exact c.elim
  | .ok .brk, c => exact c.elim
  | .ok .cont, c => exact c.elim
end
section
variable {X : Cx} {k n : Nat} {f C : Addr} {ps ks : List Str} {Pf : FX} {W : WX} {x nm : Str} {p pos apos : Pos} {e o : Expr} {es : List Expr} {kws : List Keyword} {ta : TE} {t tk : TA} {idx : List Nat} {dd : List D} (K : PySem.W.Frag) (hK : X.K = K)
include hK
theorem kx_funGX (hg0 : X.A.guards = some []) (D : DefGX X.prog X.w K X.mg X.base k f ps Pf) (kb : KBS K f ps n ks idx dd) (hr : Room k X.A) (hg : Gl X x) (hm : X.mg x = some (.ref f)) (hk : PySem.W.keepIn K (.ref f) = true) (ha : PA X (e :: es) t) (hkw : PK X kws tk) (tkW : Takes X W)
    (hall : (backToKw pos (keywordEach kws X.env)).all (·.1.isSome) = true := by rfl) (hks : (backToKw pos (keywordEach kws X.env)).filterMap (·.1) = ks := by rfl)
    (hdb : (x == ("__debug__" : Str)) = false := by decide) (he : starEach (e :: es) X.env = (false, eval e X.env) :: starEach es X.env := by rfl)
    (hpl : ((backTo pos (starEach (e :: es) X.env)).any (·.1) || (backToKw pos (keywordEach kws X.env)).any (·.1.isNone)) = false := by rfl) :
    PE X (.Call (.Name x p) (e :: es) kws pos) (tFunX K n ks.length idx dd (spX K Pf) t tk W) := by
  subst hK
  obtain ⟨fd, F, _, fe⟩ := D
  obtain ⟨its, dvs, hd, kbn⟩ := kb.kbn fe
  refine ⟨fun pins s σ H Q I h => ?_⟩
  refine wpAny_Call_Name_kw (ld_glob I hg hm ?_ hdb)
  refine PySem.W.callWith_KW (h₀ := X.base) I.ok.mod.kin hk hall (thn (ha.run pos pins s σ H _ I h) fun us s1 ⟨vs, H1, I1, r, q⟩ => ?_) hpl he
  refine thn (hkw.run pos pins s1 σ H1 _ I1 q) fun ws s2 ⟨zs, H2, I2, rz, l1, l2, q2⟩ => ⟨I2.kIn, ?_⟩
  rw [hks]
  exact go_fnG hg0 F hr kbn (passAt tkW σ) I2 r rz l1 l2 (q2 dvs hd)
end
/-! ### a text that is shown twice -/
def LowS (x : Str) : Prop := ∀ c ∈ x.cps.toList, c < 16 ^ 8
theorem char_low (ch : Char) : ch.toNat < 16 ^ 8 := Nat.lt_of_lt_of_le (UInt32.toNat_lt ch.val) (by decide)
theorem low_hex (w c : Nat) : ∀ x ∈ (List.replicate (w - ((Nat.toDigits 16 c).map Char.toNat).length) 48 ++ (Nat.toDigits 16 c).map Char.toNat), x < 16 ^ 8 := fun x hx => by
  rcases List.mem_append.mp hx with hx | hx
  · rw [(List.mem_replicate.mp hx).2]; decide
  · obtain ⟨ch, _, rfl⟩ := List.mem_map.mp hx
    exact char_low ch
theorem low_two {a b : Nat} (ha : a < 16 ^ 8) (hb : b < 16 ^ 8) : ∀ x ∈ [a, b], x < 16 ^ 8 := fun x hx => by
  rcases List.mem_cons.mp hx with rfl | hx
  · exact ha
  · rw [List.mem_singleton.mp hx]; exact hb
theorem low_app {l k : List Nat} (ha : ∀ x ∈ l, x < 16 ^ 8) (hb : ∀ x ∈ k, x < 16 ^ 8) : ∀ x ∈ l ++ k, x < 16 ^ 8 := fun x hx => (List.mem_append.mp hx).elim (ha x) (hb x)
theorem low_reprChar {q c : Nat} (hc : c < 16 ^ 8) : ∀ x ∈ Builtin.Str.reprChar q c, x < 16 ^ 8 := by
  unfold Builtin.Str.reprChar
  dsimp only
  split
  · exact low_two (by decide) hc
  split
  · exact low_two (by decide) (by decide)
  split
  · exact low_two (by decide) (by decide)
  split
  · exact low_two (by decide) (by decide)
  split
  · exact fun x hx => by rw [List.mem_singleton.mp hx]; exact hc
  split
  · exact low_app (low_two (by decide) (by decide)) (low_hex 2 c)
  split
  · exact low_app (low_two (by decide) (by decide)) (low_hex 4 c)
  · exact low_app (low_two (by decide) (by decide)) (low_hex 8 c)
theorem low_fold (q : Nat) : ∀ (l : List Nat) (acc : Array Nat), (∀ c ∈ l, c < 16 ^ 8) → (∀ c ∈ acc.toList, c < 16 ^ 8) → ∀ c ∈ (l.foldl (fun out c => out ++ (Builtin.Str.reprChar q c).toArray) acc).toList, c < 16 ^ 8
  | [], acc, _, h => h
  | c :: r, acc, h, k => by
    rw [List.foldl_cons]
    refine low_fold q r _ (fun d hd => h d (List.mem_cons_of_mem _ hd)) ?_
    rw [Array.toList_append]
    exact low_app k (low_reprChar (h c List.mem_cons_self))
theorem low_repr {x : Str} (h : LowS x) : LowS (reprText x) := by
  have hq : reprQuote x < 16 ^ 8 := by
    unfold reprQuote
    split <;> decide
  show ∀ c ∈ ((x.cps.foldl (fun out c => out ++ (Builtin.Str.reprChar (reprQuote x) c).toArray) #[reprQuote x]).push (reprQuote x)).toList, c < 16 ^ 8
  rw [Array.toList_push, ← Array.foldl_toList]
  exact low_app (low_fold _ _ _ h fun c hc => by rw [List.mem_singleton.mp hc]; exact hq) fun c hc => by rw [List.mem_singleton.mp hc]; exact hq
theorem low_lit (s : String) : LowS (Str.ofString s) := fun c hc => by
  rw [signs_ofString] at hc
  obtain ⟨ch, _, rfl⟩ := List.mem_map.mp hc
  exact char_low ch
theorem low_cat {a b : Str} (ha : LowS a) (hb : LowS b) : LowS (a ++ b) := fun c hc => (mem_cps_append.mp hc).elim (ha c) (hb c)
theorem low_join {ts : List Str} (h : ∀ t ∈ ts, LowS t) : LowS (Str.join ", " ts) := fun c hc => by
  rcases (mem_join _ _ _).mp hc with ⟨t, ht, k⟩ | ⟨_, k⟩
  · exact h t ht c k
  · exact low_lit ", " c k
theorem low_all : ∀ {xs : List PyData}, (∀ x ∈ xs, LowS x.shown) → ∀ t ∈ PyData.shownAll xs, LowS t
  | [], _, t, h => by simp [PyData.shownAll] at h
  | x :: xs, k, t, h => by
    simp only [PyData.shownAll, List.mem_cons] at h
    rcases h with rfl | h
    · exact k x List.mem_cons_self
    · exact low_all (fun y hy => k y (List.mem_cons_of_mem _ hy)) t h
theorem low_list {xs : List PyData} (h : ∀ x ∈ xs, LowS x.shown) : LowS (PyData.list xs).shown := by
  rw [PyData.shown_list]
  exact low_cat (low_cat (low_lit "[") (low_join (low_all h))) (low_lit "]")
theorem low_tuple {xs : List PyData} (h : ∀ x ∈ xs, LowS x.shown) : LowS (PyData.tuple xs).shown := by
  rw [PyData.shown_tuple]
  refine low_cat (low_cat (low_lit "(") (low_join (low_all h))) ?_
  split <;> exact low_lit _
theorem low_int (i : Int) : LowS (PyData.int i).shown := by
  simp only [PyData.shown]
  exact low_lit _
theorem low_strOk {x : Str} (h : PyData.strOk x = true) : LowS x := fun c hc => by
  unfold PyData.strOk at h
  rw [Array.all_eq_true'] at h
  exact Nat.lt_of_lt_of_le (of_decide_eq_true (h c (by simpa using hc))) (by decide)
theorem low_str {x : Str} (h : PyData.strOk x = true) : LowS (PyData.str x).shown := by
  rw [PyData.shown_str]
  exact low_repr (low_strOk h)
theorem Shw.low {x : Str} (h : LowS x) : Shw 0 (10 * x.length + 2) (.str x) := by
  refine ⟨by simp only [PyData.showable], by simp only [PyData.hasDict], by simp only [PyData.depth]; omega, ?_⟩
  simp only [PyData.shown]
  exact StrLaws.reprText_len x h
end DL

set_option Elab.async false
set_option linter.all false
set_option maxRecDepth 100000
set_option maxHeartbeats 1000000
set_option autoImplicit false
/-! Shown lists and tuples in which flat dicts stand; a dict held against the empty one. -/
namespace DL
open PySem PySem.Spec PyProof.Rows L2
def kPy : Key → PyData
  | .inl i => .int i
  | .inr x => .str x
/-- a plain value of a dict -/
inductive Fl : V → PyData → Prop
  | non : Fl .non .none
  | int (i : Int) : Fl (.int i) (.int i)
  | str (x : Str) : Fl (.str x) (.str x)
inductive FlK : List (Key × V) → List (PyData × PyData) → Prop
  | nil : FlK [] []
  | cons {k : Key} {v : V} {d : PyData} {vs : List (Key × V)} {ps : List (PyData × PyData)} : Fl v d → FlK vs ps → FlK ((k, v) :: vs) ((kPy k, d) :: ps)
/-- a thing without dicts, or a flat dict -/
inductive It (K : PySem.W.Frag) (H : Hp) : V → PyData → Prop
  | pl {v : V} {d : PyData} : Dp K H v d → d.hasDict = false → It K H v d
  | dk {a : Addr} {vs : List (Key × V)} {ps : List (PyData × PyData)} : H a = some (.dK vs) → FlK vs ps → It K H (.ref a) (.dict ps)
inductive ItL (K : PySem.W.Frag) (H : Hp) : List V → List PyData → Prop
  | nil : ItL K H [] []
  | cons {v : V} {vs : List V} {d : PyData} {ds : List PyData} : It K H v d → ItL K H vs ds → ItL K H (v :: vs) (d :: ds)
section
variable {X : Cx} {pins : List (Addr × Obj)} {σ : L2.St} {H : Hp} {s : Shared}
theorem fl_reads {h : Heap} {v : V} {d : PyData} {u : Value} (f : Fl v d) (r : RelV v u) : Reads h u d [] := by
  cases f with
  | non => cases r; exact Reads.none
  | int i => obtain ⟨t, rfl⟩ := r; exact Reads.int i t
  | str x => obtain ⟨t, rfl⟩ := r; exact Reads.str x t
theorem key_reads {h : Heap} {k : Key} {u : Value} (r : keyIs k u = true) : Reads h u (kPy k) [] := by
  rcases keyIs_shape r with ⟨i, t, rfl, rfl⟩ | ⟨x, t, rfl, rfl⟩
  · exact Reads.int i t
  · exact Reads.str x t
theorem flk_reads {P : Program} {w : World} {h : Heap} : ∀ {vs : List (Key × V)} {ps : List (PyData × PyData)} {us : List (Key × Value)} {es : List DictEntry}, FlK vs ps → KV vs us → Pairs (mixKind P w) es us → ReadsAll h (es.map (·.key)) (ps.map (·.1)) [] ∧ ReadsAll h (es.map (·.val)) (ps.map (·.2)) []
  | _, _, _, _, .nil, r, p => by
    cases r
    cases p
    exact ⟨.nil, .nil⟩
  | _, _, _, _, .cons (k := k) (v := v) f fs, r, p => by
    cases r with
    | cons r rs =>
      cases p with
      | cons a b p =>
        obtain ⟨g1, g2⟩ := flk_reads (h := h) fs rs p
        have a' := a
        rw [← r.1] at a'
        have q1 := key_reads (h := h) (show keyIs k _ = true from a')
        have r2 := r.2
        rw [← b] at r2
        have q2 := fl_reads (h := h) f r2
        exact ⟨.cons q1 g1, .cons q2 g2⟩
theorem it_reads (I : Inv X pins σ H s) {v : V} {d : PyData} {u : Value} (t : It X.K H v d) (r : RelV v u) : ∃ as, Reads s.heap u d as ∧ (d.hasDict = true → sysModules ∉ as) := by
  cases t with
  | pl a nd =>
    obtain ⟨as, q⟩ := Dp.reads I d _ _ a r
    exact ⟨as, q, fun e => by rw [nd] at e; cases e⟩
  | dk e f =>
    cases r
    obtain ⟨_, lo, us, kv, o, es, ep, ho, hx, hd, _, hp, _⟩ := I.hok _ _ e
    obtain ⟨g1, g2⟩ := flk_reads (h := s.heap) f kv hp
    exact ⟨_, Reads.dict ho hx.1 hd g1 g2, fun _ hm => by
      rcases List.mem_cons.mp hm with h | h
      · rw [← h] at lo
        simp at lo
      · simp at h⟩
theorem itl_reads (I : Inv X pins σ H s) : ∀ {vs : List V} {ds : List PyData} {us : List Value}, ItL X.K H vs ds → Vals vs us → PyData.showableAll ds = true → (∀ t ∈ PyData.shownAll ds, t.length ≤ sizeLine) →
    ∃ as bs, ReadsAll s.heap us ds as ∧ ReadAtMost s.heap (PyData.depthAll ds) bs ∧ ReprAllK X.prog X.w bs s.heap (PyData.depthAll ds) us (PyData.shownAll ds)
  | _, _, _, .nil, r, _, _ => by
    cases r
    exact ⟨_, [], .nil, (fun _ h => nomatch h), .nil⟩
  | _, _, _, .cons (d := d) (ds := ds) t ts, r, hs, hz => by
    cases r with
    | cons r rs =>
      simp only [PyData.showableAll, Bool.and_eq_true] at hs
      simp only [PyData.shownAll, List.mem_cons, forall_eq_or_imp] at hz
      obtain ⟨as, q, far⟩ := it_reads I t r
      obtain ⟨as2, bs2, q2, m2, k2⟩ := itl_reads I ts rs hs.2 hz.2
      obtain ⟨bs, m1, k1⟩ := ReprK.of_reads (prog := X.prog) (w := X.w) q hs.1 far hz.1
      refine ⟨_, bs ++ bs2, .cons q q2, (m1.mono ?_).append (m2.mono ?_), ?_⟩
      · simp only [PyData.depthAll]; omega
      · simp only [PyData.depthAll]; omega
      · have l1 : d.depth ≤ PyData.depthAll (d :: ds) := by simp only [PyData.depthAll]; omega
        have l2 : PyData.depthAll ds ≤ PyData.depthAll (d :: ds) := by simp only [PyData.depthAll]; omega
        have k3 := k2.more_le (as' := bs ++ bs2) (fun b hb => List.mem_append_right bs hb) l2
        have k4 := (k1.more (as' := bs ++ bs2) fun b hb => List.mem_append_left bs2 hb).level_le l1
        simp only [PyData.shownAll]
        exact .cons k4 k3
end
def rReprX (K : PySem.W.Frag) : List V → Hp → VK → Prop := fun xs H Q => ∃ a vs ds, xs = [V.ref a] ∧ ItL K H vs ds ∧ PyData.showableAll ds = true ∧ (∀ t ∈ PyData.shownAll ds, t.length ≤ sizeLine) ∧ PyData.depthAll ds ≤ 60 ∧
  ((SqL K H a vs ∧ (listText (PyData.shownAll ds)).length ≤ sizeLine ∧ Q (.str (listText (PyData.shownAll ds))) H) ∨ (SqT K H a vs ∧ (tupleText (PyData.shownAll ds)).length ≤ sizeLine ∧ Q (.str (tupleText (PyData.shownAll ds))) H))
theorem cr_reprX {X : Cx} (hg : X.A.guards = some []) (hu : X.A.units + 66 < cLine) : CallR X (.builtin "repr") (rReprX X.K) := by
  intro pins s σ H xs us Q I rv h
  obtain ⟨a, vs, ds, rfl, it, hs, hz, hd, h⟩ := h
  cases rv with
  | cons r0 r1 =>
    cases r1
    obtain rfl := show _ = Value.ref a from r0
    rcases h with ⟨sq, hl, q⟩ | ⟨sq, hl, q⟩
    · obtain ⟨its, rv, ⟨o, n, ho, hc, _, hdt⟩, _⟩ := I.list sq
      obtain ⟨as, bs, ra, rm, rk⟩ := itl_reads I it rv hs hz
      have whole : Reads s.heap (.ref a) (.list ds) _ := .list ho hc hdt ra
      have out : a ∉ bs := not_mem_of_deeper whole (by simp only [PyData.depth]; omega) rm
      refine call_repr_slot (by omega) ⟨o, ho, hc⟩ F.slot_list_repr.toG ?_
      cases its with
      | nil =>
        cases ra
        have e0 : listText (PyData.shownAll []) = ("[]" : Str) := by simp only [PyData.shownAll]; exact listText_nil
        rw [e0] at q
        exact call_list_repr_empty ⟨o, ho, hc⟩ ho hdt ⟨_, _, rfl, .str ("[]" : Str), H, I.tok _, ⟨_, rfl⟩, q⟩
      | cons x l =>
        exact call_list_reprK ho hc hdt out (by simpa using rk.length_eq) (fun i y e => rk.item i y (by simpa using e)) hg (fun b _ => Clear.nil b) (by show X.A.units + 1 + _ < _; omega) (fun _ _ e => e) (fun h' u tk k => ⟨_, _, rfl, .str (listText (PyData.shownAll ds)), H, I.kept k, ⟨_, rfl⟩, q⟩) hl
    · obtain ⟨its, rv, ⟨o, ho, hc, n, hdt⟩, _⟩ := I.tuple sq
      obtain ⟨as, bs, ra, rm, rk⟩ := itl_reads I it rv hs hz
      have whole : Reads s.heap (.ref a) (.tuple ds) _ := .tuple ho hc hdt ra
      have out : a ∉ bs := not_mem_of_deeper whole (by simp only [PyData.depth]; omega) rm
      refine call_repr_slot (by omega) ⟨o, ho, hc⟩ F.slot_tuple_repr ?_
      exact call_tuple_reprK ho hc hdt out rk hg (fun b _ => Clear.nil b) (by show X.A.units + 1 + _ < _; omega) (fun _ _ e => e) (fun h' u tk k => ⟨_, _, rfl, .str (tupleText (PyData.shownAll ds)), H, I.kept k, ⟨_, rfl⟩, q⟩) hl
/-! ### d == {} -/
def rEqE : R2 := fun x y H Q => ∃ (a b : Addr) (ks : List (Key × V)), x = .ref a ∧ y = .ref b ∧ H a = some (.dK ks) ∧ H b = some (.dK []) ∧ Q (.bl ks.isEmpty) H
theorem op_eqE {X : Cx} (hu : X.A.units + 64 < cLine) : OpR X (compareOp .Eq) rEqE := by
  intro pins s σ H x y v u Q I rx ry h
  obtain ⟨a, b, ks, rfl, rfl, ha, hb, q⟩ := h
  cases (show v = Value.ref a from rx)
  cases (show u = Value.ref b from ry)
  obtain ⟨_, fa, va, ra, da⟩ := I.hok a _ ha
  obtain ⟨_, fb, vb, rb, db⟩ := I.hok b _ hb
  cases rb
  have el : va.length = ks.length := ra.length.symm
  refine PySem.W.rcP_dicts (knd := mixKind X.prog X.w) (r := true) fa fb da db (by omega) (fun e => ?_) _ _ ?_
  · have : va = [] := List.eq_nil_of_length_eq_zero (by simpa using e)
    rw [this]
    exact .nil
  · have eb : (va.length == ([] : List (Key × Value)).length && true) = ks.isEmpty := by
      rw [el, Bool.and_true]
      cases ks <;> rfl
    exact ⟨.bl ks.isEmpty, H, I, (congrArg Value.bool eb : Value.bool _ = _), q⟩
section
variable {K : PySem.W.Frag} {m : Mem} {Q : D → Mem → Prop}
theorem oE_eq {x : D} {kvs : List (Key × D)} (hx : DctIn m x kvs) (q : Q (.bl kvs.isEmpty) m) : OW K rEqE x (.dic []) m Q := fun H v w M a b QQ k => by
  obtain ⟨p2, ys, rfl, e2, n2, _⟩ := dic_at b
  have e0 : ys = [] := by simpa using n2
  subst e0
  obtain ⟨p, xs, rfl, e1, n1⟩ : ∃ (p : Addr) (xs : List (Key × V)), v = .ref p ∧ H p = some (.dK xs) ∧ xs.map Prod.fst = kvs.map Prod.fst := by
    rcases hx with rfl | ⟨p, rfl, i, hm⟩
    · obtain ⟨p, xs, e1, e2, e3, _⟩ := dic_at a
      exact ⟨p, xs, e1, e2, e3⟩
    · cases a
      obtain ⟨xs, e1, e2, _⟩ := dicM_at M hm
      exact ⟨p, xs, rfl, e1, e2⟩
  have ee : xs.isEmpty = kvs.isEmpty := by
    cases xs <;> cases kvs <;> first | rfl | simp at n1
  exact ⟨p, p2, xs, rfl, rfl, e1, e2, k _ m _ H (by rw [ee]; exact q) (Sub.refl _) M (.bl _)⟩
/-! ### what is shown, with flat dicts in it -/
def D.plv : D → Bool
  | .non => true
  | .int _ => true
  | .str _ => true
  | _ => false
theorem flk_of {F : Hp} : ∀ {vs : List (Key × V)} {ds : List (Key × D)}, vs.map Prod.fst = ds.map Prod.fst → RdL K F (vs.map Prod.snd) (ds.map Prod.snd) → (ds.all fun q => q.2.plv) = true → FlK vs (D.pyK ds)
  | [], [], _, _, _ => by
    simp only [D.pyK]
    exact .nil
  | [], _ :: _, h, _, _ => by cases h
  | _ :: _, [], h, _, _ => by cases h
  | (k1, v) :: vs, (k2, d) :: ds, h, r, f => by
    simp only [List.map_cons, List.cons.injEq] at h
    obtain ⟨rfl, h⟩ := h
    simp only [List.all_cons, Bool.and_eq_true] at f
    cases r with
    | cons r rs =>
      have g := flk_of h rs f.2
      have fv : Fl v (D.py d) := by
        have f1 := f.1
        cases d with
        | non => cases r; simp only [D.py]; exact .non
        | int i => cases r; simp only [D.py]; exact .int i
        | str x => cases r; simp only [D.py]; exact .str x
        | _ => cases f1
      simp only [D.pyK]
      cases k1 <;> exact .cons fv g
def ShI (K : PySem.W.Frag) (m : Mem) (x : D) (d : PyData) : Prop := ∀ (H : Hp) (v : V), MemOk K m H → Rd K (hide m H) v x → It K H v d
def ShL (K : PySem.W.Frag) (m : Mem) (xs : List D) (ds : List PyData) : Prop := ∀ (H : Hp) (vs : List V), MemOk K m H → RdL K (hide m H) vs xs → ItL K H vs ds
theorem ShI.pl {x : D} {d : PyData} (h : Res K m x d) (nd : d.hasDict = false) : ShI K m x d := fun H v M r => .pl (h H v M r) nd
theorem ShI.dic {x : D} {kvs : List (Key × D)} (hx : DctIn m x kvs) (f : (kvs.all fun q => q.2.plv) = true) : ShI K m x (.dict (D.pyK kvs)) := fun H v M r => by
  rcases hx with rfl | ⟨p, rfl, i, hm⟩
  · obtain ⟨p, xs, rfl, e1, e2, e3⟩ := dic_at r
    exact .dk e1 (flk_of e2 e3 f)
  · cases r
    obtain ⟨xs, e1, e2, e3⟩ := dicM_at M hm
    exact .dk e1 (flk_of e2 e3 f)
theorem ShL.nil : ShL K m [] [] := fun H vs M r => by cases r; exact .nil
theorem ShL.cons {x : D} {d : PyData} {xs : List D} {ds : List PyData} (h : ShI K m x d) (h' : ShL K m xs ds) : ShL K m (x :: xs) (d :: ds) := fun H vs M r => by
  cases r with
  | cons a b => exact .cons (h H _ M a) (h' H _ M b)
/-- how far a shown thing goes -/
structure Shx (n B : Nat) (d : PyData) : Prop where
  ok : d.showable = true
  dp : d.depth ≤ n
  le : d.shown.length ≤ B
theorem Shw.x {n B : Nat} {d : PyData} (h : Shw n B d) : Shx n B d := ⟨h.ok, h.dp, h.le⟩
theorem shx_all {n B : Nat} : ∀ {ds : List PyData}, (∀ d ∈ ds, Shx n B d) → PyData.showableAll ds = true ∧ PyData.depthAll ds ≤ n ∧ (∀ t ∈ PyData.shownAll ds, t.length ≤ B) ∧ ((PyData.shownAll ds).map (·.length)).sum ≤ ds.length * B ∧ (PyData.shownAll ds).length = ds.length
  | [], _ => by simp [PyData.showableAll, PyData.depthAll, PyData.shownAll]
  | d :: ds, h => by
    obtain ⟨a, b, c, e, l⟩ := shx_all (ds := ds) fun y hy => h y (List.mem_cons_of_mem _ hy)
    have hd := h d List.mem_cons_self
    have h1 := hd.dp
    have h2 := hd.le
    have es : (ds.length + 1) * B = ds.length * B + B := Nat.succ_mul _ _
    simp only [PyData.showableAll, PyData.depthAll, PyData.shownAll, List.map_cons, List.sum_cons, List.length_cons, hd.ok, a, Bool.and_self, List.mem_cons, forall_eq_or_imp]
    exact ⟨trivial, by omega, ⟨h2, c⟩, by omega, by omega⟩
theorem cw_showXL {x : D} {xs : List D} {ds : List PyData} {n B : Nat} (hx : SeqIn m x xs) (h : ShL K m xs ds) (s : ∀ d ∈ ds, Shx n B d) (hn : n ≤ 60) (hB : ds.length * (B + 2) + 3 ≤ sizeLine) (q : Q (.str (listText (PyData.shownAll ds))) m) : CW K (rReprX K) [x] m Q := fun H vs M a QQ k => by
  obtain ⟨c1, c2, c3, c4, c5⟩ := shx_all s
  have ll := listText_len_le (PyData.shownAll ds)
  rw [c5] at ll
  have es : ds.length * (B + 2) = ds.length * B + ds.length * 2 := Nat.mul_add _ _ _
  cases a with
  | cons a b =>
    cases b
    obtain ⟨p, ws, rfl, e, r⟩ := hx.get M a
    refine ⟨p, ws, ds, rfl, h H ws M r, c1, fun t ht => ?_, by omega, .inl ⟨SqL.of e, by omega, k _ m _ H q (Sub.refl _) M (.str _)⟩⟩
    have c6 := c3 t ht
    have : 0 < ds.length := by
      rw [← c5]
      exact List.length_pos_of_mem ht
    have : B ≤ ds.length * B := Nat.le_mul_of_pos_left _ this
    omega
theorem cw_showXT {xs : List D} {ds : List PyData} {n B : Nat} (h : ShL K m xs ds) (s : ∀ d ∈ ds, Shx n B d) (hn : n ≤ 60) (hB : ds.length * (B + 2) + 3 ≤ sizeLine) (q : Q (.str (tupleText (PyData.shownAll ds))) m) : CW K (rReprX K) [.tup xs] m Q := fun H vs M a QQ k => by
  obtain ⟨c1, c2, c3, c4, c5⟩ := shx_all s
  have ll := tupleText_len_le (PyData.shownAll ds)
  rw [c5] at ll
  have es : ds.length * (B + 2) = ds.length * B + ds.length * 2 := Nat.mul_add _ _ _
  cases a with
  | cons a b =>
    cases b
    obtain ⟨p, ws, rfl, e, r⟩ := tup_at a
    refine ⟨p, ws, ds, rfl, h H ws M r, c1, fun t ht => ?_, by omega, .inr ⟨e, by omega, k _ m _ H q (Sub.refl _) M (.str _)⟩⟩
    have c6 := c3 t ht
    have : 0 < ds.length := by
      rw [← c5]
      exact List.length_pos_of_mem ht
    have : B ≤ ds.length * B := Nat.le_mul_of_pos_left _ this
    omega
end
def rReprV (K : PySem.W.Frag) : List V → Hp → VK → Prop := fun xs H Q => rReprU K xs H Q ∨ rReprX K xs H Q
theorem kx_reprV {X : Cx} (K : PySem.W.Frag) (hK : X.K = K) (hg : X.A.guards = some []) (hu : X.A.units + 66 < cLine) : CallR X (.builtin "repr") (rReprV K) := by
  subst hK
  intro pins s σ H xs us Q I rv h
  rcases h with h | h
  · exact kx_reprU X.K rfl hg hu pins s σ H xs us Q I rv h
  · exact cr_reprX hg hu pins s σ H xs us Q I rv h
/-! ### texts held against each other -/
def rLtS : R2 := fun x y H Q => ∃ p q : Str, x = .str p ∧ y = .str q ∧ Q (.bl (decide (p.cps.toList < q.cps.toList))) H
def rGtS : R2 := fun x y H Q => ∃ p q : Str, x = .str p ∧ y = .str q ∧ Q (.bl (decide (q.cps.toList < p.cps.toList))) H
theorem op_ltS {X : Cx} : OpR X (compareOp .Lt) rLtS := op_lt_str
theorem op_gtS {X : Cx} : OpR X (compareOp .Gt) rGtS := fun pins s σ H x y v u Q I rx ry ⟨p, q, e1, e2, w⟩ => by
  subst e1 e2
  obtain ⟨_, rfl⟩ := rx
  obtain ⟨_, rfl⟩ := ry
  exact PySem.P.gt_str (fin_bl I w rfl)
section
variable {K : PySem.W.Frag} {m : Mem} {Q : D → Mem → Prop} {p q : Str}
theorem ow_ltS (w : Q (.bl (decide (p.cps.toList < q.cps.toList))) m) : OW K rLtS (.str p) (.str q) m Q := fun H v u M a b QQ k => by
  cases a
  cases b
  exact ⟨_, _, rfl, rfl, k _ m _ H w (Sub.refl _) M (.bl _)⟩
theorem ow_gtS (w : Q (.bl (decide (q.cps.toList < p.cps.toList))) m) : OW K rGtS (.str p) (.str q) m Q := fun H v u M a b QQ k => by
  cases a
  cases b
  exact ⟨_, _, rfl, rfl, k _ m _ H w (Sub.refl _) M (.bl _)⟩
/-- data, once cells, of which nothing else is looked at any more -/
theorem ew_freeze {δ : List (Option D)} {te : TE} (h : EW K te δ m fun x m1 => ∃ m0 r d, m1.Perm (m0 ++ r) ∧ (∀ (H : Hp) (v : V), MemOk K (m0 ++ r) H → Rd K (hide (m0 ++ r) H) v x → Rd K (hide m0 H) v d) ∧ Q d m0) : EW K te δ m Q := fun σ H s M QQ k =>
  h σ H s M _ fun x m1 v H1 ⟨m0, r, d, p, f, w⟩ s1 M1 r1 => by
    have M1 := M1.perm p
    rw [hide_perm p] at s1 r1
    obtain ⟨M2, sb⟩ := MemOk.dropG r M1
    exact k d m0 v H1 w (s1.trans sb) M2 (f H1 v M1 r1)
end
end DL

set_option Elab.async false
set_option linter.all false
set_option maxRecDepth 100000
set_option maxHeartbeats 1000000
set_option autoImplicit false
/-! Several except clauses, each with the same name for what is caught. -/
namespace DL
open PySem PySem.Spec PyProof.Rows L2
abbrev Clause : Type := Value × (Addr → Value → Option Addr → TS)
/-- what the clauses ask of an error, one after the other; slot i is that of its name -/
def wClauses (K : PySem.W.Frag) (i : Nat) (out : WX) (D : Ends) : List Clause → WX
  | [] => out
  | q :: r => wAs K q.1 i q.2 (wClauses K i out D r) D
inductive Clauses (X : Cx) (n : Str) : List ExceptHandler → List Clause → Prop
  | nil : Clauses X n [] []
  | cons {x : Str} {c : Value} {ts : Addr → Value → Option Addr → TS} {st : Stmt} {sts : List Stmt} {p1 p2 : Pos} {hs : List ExceptHandler} {r : List Clause} (nm : Names X x c)
      (go : ∀ (a : Addr) (o : Obj) (cls : Value) (d : Option Addr) (pn : List (Addr × Obj)), Zc cls d o → (∃ vs, o.data = .fields vs) → ∃ t, PSs (X.suite a ((a, o) :: pn)) (st :: sts) t ∧ t = ts a cls d) (tl : Clauses X n hs r) :
      Clauses X n (.ExceptHandler (some (.Name x p1)) (some n) (st :: sts) p2 :: hs) ((c, ts) :: r)
section
variable {X : Cx} {n : Str} {i : Nat} {out : WX} {body : List Stmt} {c0 : ExceptHandler} {cr : List ExceptHandler} {l : List Clause} {at_ : Pos} {tb : WX → TS}
theorem ps_tryC (st : X.stack = X.env :: X.outer) (fr : X.env.frame = some X.env.locals) (nN : X.N.Nodup) (ni : X.N[i]? = some n) (nl : X.env.kindOf n = some .local) (tk : Takes X out)
    (hb : ∀ (W : WX) (pn : List (Addr × Obj)) (xe : Value → Shared → Prop), Takes (X.tr pn xe) W → PassesOwn (model X.prog X.w) X.A X.env xe → ∃ t, PSs (X.tr pn xe) body t ∧ t = tb W)
    (hc : Clauses X n (c0 :: cr) l) : PS X (.Try body (c0 :: cr) [] [] at_) (fun D σ H => tb (wClauses X.K i out D l) D σ H) := by
  constructor
  intro pins s σ H D inv wish
  have okX := inv.ok
  have frs_ : X.A.frames = some (X.env :: X.outer) := by rw [okX.frames, st]
  let onX : Value → Shared → Prop := fun e t1 => wpAny (model X.prog X.w) X.A (noteFrame e X.env) (fun _ t2 => wpAny (model X.prog X.w) X.A (setFlight e none) (fun _ t3 =>
    wpAny (model X.prog X.w) X.A (handleBy e X.env (c0 :: cr)) (SP X pins D) X.xe t3) X.xe t2) X.xe t1
  have caught : Takes (X.tr (X.pn ++ pins) onX) (wClauses X.K i out D l) := by
    rintro u s2 ⟨ea, B, sM, pq, σ2, H2, cls, d, rfl, invM, nb, up, sky, free, os, ag, w⟩
    have inv2 : Inv X pins σ2 H2 sM := invM.ofTry okX
    rw [show (X.tr (X.pn ++ pins) onX).stack = X.env :: X.outer from st] at sky
    show wpAny (model X.prog X.w) X.A (noteFrame (.ref ea) X.env) _ _ _
    refine Sky.land Zc.steady frs_ fr sky fun g fl upg => ?_
    have inv3 : Inv X pins σ2 H2 { s2 with heap := g } := inv2.landed nb fl.1 (up.trans upg) os ag
    obtain ⟨ox, vx, hox, zox, dox⟩ := fl.there
    have noFrame : ea ∉ frs (X.env :: X.outer) := fun hm => by
      obtain ⟨_, o2, e2, no2⟩ := fl.2.2.1.mem hm
      rw [hox] at e2
      cases e2
      exact no2 _ dox
    have noLoc : ea ≠ X.env.locals := fun e => noFrame (List.mem_filterMap.mpr ⟨X.env, List.mem_cons_self, by rw [fr, e]⟩)
    have noFs : ea ∉ X.fs := fun hm => by
      obtain ⟨v, hv, q⟩ := List.mem_filterMap.mp hm
      exact noFrame (List.mem_filterMap.mpr ⟨v, List.mem_cons_of_mem _ hv, q⟩)
    have inS := inv3.suite hox dox free noLoc noFs
    have looks : PySem.W.Looks (model X.prog X.w) g (typeOf (.ref ea)) cls := fun A Q E t k q => wpAny_typeOf_ref (k _ _ hox) (by rw [zox.1]; exact q)
    have each : ∀ {cs : List ExceptHandler} {r : List Clause}, Clauses X n cs r → wClauses X.K i out D r cls d σ2 H2 → wpAny (model X.prog X.w) X.A (handleBy (.ref ea) X.env cs) (SP X pins D) X.xe { s2 with heap := g } := by
      intro cs r hr
      induction hr with
      | nil =>
        intro w
        apply wpAny_handleBy_nil
        have whole := fl
        obtain ⟨_, _, _, o5, v5, tr5, _, _, at5, _, dat5, one5, _⟩ := fl
        unfold PySem.passOn
        refine wpAny_bind (wpAny_field at5 dat5 one5 ?_)
        rw [if_neg (by simp : ¬ ((Value.ref tr5 == Value.none) = true))]
        have last : wpAny (model X.prog X.w) X.A (setFlight (.ref ea) X.env.frame) (fun _ t4 => wpAny (model X.prog X.w) X.A (throw (.ref ea) : Sem Flow) (SP X pins D) X.xe t4) X.xe { s2 with heap := g } := by
          rw [fr]
          exact HandSPX.setFlight_upZ whole fun g4 h4 up4 => wpAny_throw (tk _ _ ⟨ea, B, sM, pins, σ2, H2, cls, d, rfl, inv2, nb, (up.trans upg).trans up4, .inr (.inr (by rw [st]; exact h4)), free, os, ag, w⟩)
        first
          | exact wpAny_bind (wpAny_pure (wpAny_bind last))
          | exact wpAny_bind last
      | @cons x c ts stm sts p1 p2 cs2 r2 nm suite tl ih =>
        intro w
        obtain ⟨b, is_, yes, no⟩ := w
        refine wpAny_handleBy_cons (codeAny_handlers_test ?_) (fun z => by cases z)
        have mt := PySem.W.exm_one (M := model X.prog X.w) inv3.kIn looks is_
        have named : ∀ {Q : Value → Shared → Prop} {E : Value → Shared → Prop}, Q c { s2 with heap := g } → wpAny (model X.prog X.w) (X.A.mark (some (.ref ea))) (eval (.Name x p1) X.env) Q E { s2 with heap := g } := by
          intro Q E k
          obtain ⟨gl, dbg, m1 | ⟨m1, m2, m3⟩⟩ := nm
          · exact ld_glob (X := X.suite ea ((ea, ox) :: (X.pn ++ pins))) inS gl m1 k dbg
          · exact ld_blt (X := X.suite ea ((ea, ox) :: (X.pn ++ pins))) inS gl m1 m2 k m3 dbg
        refine named (mt.here ?_)
        cases b with
        | false => exact ih (no rfl)
        | true =>
          refine codeAny_handlers_suite_as (HandSPX.lands_againZ fl fun g6 fl6 up6 => ?_)
          have inv6 : Inv X pins σ2 H2 { s2 with heap := g6 } := inv2.landed nb fl6.1 ((up.trans upg).trans up6) os ag
          obtain ⟨o6, v6, at6, z6, dat6⟩ := fl6.there
          have in6 := inv6.suite at6 dat6 free noLoc noFs
          refine store_ok (X := X.suite ea ((ea, o6) :: (X.pn ++ pins))) (v := .ref ea) in6 nN ni (.inl nl) rfl (fun s7 in7 => ?_) (.inr nl)
          obtain ⟨t, runs, et⟩ := suite ea o6 cls d (X.pn ++ pins) z6 ⟨_, dat6⟩
          have w7 := yes rfl ea free
          dsimp only at w7
          rw [← et] at w7
          have leave : ∀ {σ8 : L2.St} {H8 : Hp} {s8 : Shared} {Q : Shared → Prop}, Inv (X.suite ea ((ea, o6) :: (X.pn ++ pins))) [] σ8 H8 s8 → (∀ s9, Inv X pins (σ8.set i none) H8 s9 → Q s9) → wpAny (model X.prog X.w) X.A (do bindName X.env n .none; unbindBehindTheSuite X.env n p2) (fun _ s9 => Q s9) X.xe s8 :=
            fun in8 k => gone_ok (in8.unsuite okX) nN ni nl k
          refine wpAny_mono (runs.run [] s7 _ H2 _ in7 w7) (fun f s8 left => ?_) (fun _ _ z => False.elim z)
          cases f
          case next =>
            obtain ⟨_, _, in8, k⟩ := left
            exact leave in8 fun s9 in9 => ⟨_, _, in9, k⟩
          case brk =>
            obtain ⟨_, _, in8, k⟩ := left
            exact leave in8 fun s9 in9 => ⟨_, _, in9, k⟩
          case cont =>
            obtain ⟨_, _, in8, k⟩ := left
            exact leave in8 fun s9 in9 => ⟨_, _, in9, k⟩
          case ret u =>
            obtain ⟨_, _, _, in8, rl, k⟩ := left
            exact leave in8 fun s9 in9 => ⟨_, _, _, in9, rl, k⟩
    exact each hc w
  obtain ⟨t, runs, et⟩ := hb (wClauses X.K i out D l) (X.pn ++ pins) onX caught PassesOwn.looking
  rw [← et] at wish
  refine wpAny_Try_except (wpAny_mono (runs.run [] s σ H D (inv.toTry onX) wish) (fun f s8 left => ?_) fun _ _ k => k)
  cases f
  case next =>
    obtain ⟨_, _, in8, k⟩ := left
    exact wpAny_execs_nil ⟨_, _, in8.ofTry okX, k⟩
  case brk =>
    obtain ⟨_, _, in8, k⟩ := left
    exact ⟨_, _, in8.ofTry okX, k⟩
  case cont =>
    obtain ⟨_, _, in8, k⟩ := left
    exact ⟨_, _, in8.ofTry okX, k⟩
  case ret u =>
    obtain ⟨_, _, _, in8, rl, k⟩ := left
    exact ⟨_, _, _, in8.ofTry okX, rl, k⟩
end
def tTryC (K : PySem.W.Frag) (i : Nat) (l : List Clause) (tb : WX → TS) (W : WX) : TS := fun D σ H => tb (wClauses K i W D l) D σ H
theorem kx_tryC {X : Cx} {n : Str} {i : Nat} {out : WX} {body : List Stmt} {c0 : ExceptHandler} {cr : List ExceptHandler} {l : List Clause} {at_ : Pos} {tb : WX → TS} (K : PySem.W.Frag) (hK : X.K = K) (st : X.stack = X.env :: X.outer) (fr : X.env.frame = some X.env.locals) (nN : X.N.Nodup) (ni : X.N[i]? = some n) (nl : X.env.kindOf n = some .local) (tk : Takes X out)
    (hb : ∀ (W : WX) (pn : List (Addr × Obj)) (xe : Value → Shared → Prop), Takes (X.tr pn xe) W → PassesOwn (model X.prog X.w) X.A X.env xe → ∃ t, PSs (X.tr pn xe) body t ∧ t = tb W)
    (hc : Clauses X n (c0 :: cr) l) : PS X (.Try body (c0 :: cr) [] [] at_) (tTryC K i l tb out) := by
  subst hK
  exact ps_tryC st fr nN ni nl tk hb hc
section
variable {K : PySem.W.Frag} {δ : List (Option D)} {m : Mem} {P : Ps} {tb : WX → TS} {i : Nat}
/-- the clause that takes an error of a class, and what its suite does -/
def Picks (K : PySem.W.Frag) (i : Nat) (P : Ps) (δ : List (Option D)) (C : Addr) (x : D) (m : Mem) : List Clause → Prop
  | [] => False
  | q :: r => ∃ b, PySem.W.exmOne K (.ref C) q.1 = some b ∧ (b = true → ∀ a dd : Addr, SW K (q.2 a (.ref C) (some dd)) (δ.set i (some (.adr a))) (m ++ [(dd, xc x)]) (P.gone i dd)) ∧ (b = false → Picks K i P δ C x m r)
theorem sw_tryC {W0 : WX} {l : List Clause} (h : SWX K tb (fun δ' C x m' => Picks K i P δ' C x m' l) δ m P) : SW K (tTryC K i l tb W0) δ m P := fun σ H s M E k =>
  h σ H s M E k _ fun δ' C x m' dd σ' H' hp s1 S1 M1 => by
    have go : ∀ r : List Clause, Picks K i P δ' C x m' r → wClauses K i W0 E r (.ref C) (some dd) σ' H' := by
      intro r
      induction r with
      | nil => exact fun z => z.elim
      | cons q r ih =>
        rintro ⟨b, e, yes, no⟩
        refine ⟨b, e, fun hb a ha => ?_, fun hb => ih (no hb)⟩
        refine yes hb a dd (σ'.set i (some (.ref a))) H' (S1.set i (.adr a)) M1 _ ⟨fun δ2 m2 σ2 H2 ⟨c2, m3, e2, q2⟩ s2 S2 M2 => ?_, fun d m2 v H2 ⟨c2, m3, e2, q2⟩ s2 M2 r2 => ?_, fun _ _ _ _ z => z.elim, fun _ _ _ _ z => z.elim⟩
        · subst e2
          obtain ⟨M3, sb, _⟩ := M2.drop
          exact k.nx _ m3 _ H2 q2 (s1.trans (s2.trans sb)) ((S2.mono sb).unset i) M3
        · subst e2
          obtain ⟨M3, sb, _⟩ := M2.drop
          exact k.rt d m3 v H2 q2 (s1.trans (s2.trans sb)) M3 (r2.mono sb)
    exact go l hp
end
end DL

set_option Elab.async false
set_option linter.all false
set_option maxRecDepth 100000
set_option maxHeartbeats 1000000
set_option autoImplicit false
/-! enumerate(t), t a tuple. -/
namespace DL
open PySem PySem.Spec PyProof.Rows L2
theorem new_enumT (t : Addr) (items : Array Value) :
    PySem.Meets (Builtin.«enumerate.__new__» ⟨[.type "enumerate", .ref t], []⟩) (fun _ R s => s.heap.IsTuple t items ∧
      R (.ok (.ret (.ref (s.heap.push { cls := .type "tuple_iterator", data := .fields #[.ref t, .int 0 0] }).objs.size)))
        { s with heap := (s.heap.push { cls := .type "tuple_iterator", data := .fields #[.ref t, .int 0 0] }).push { cls := .type "enumerate", data := .fields #[.none, .bool false, .ref s.heap.objs.size, rawInt 0, .none, .none] } }) :=
  PySem.Meets.of_wp fun prog w A R s ⟨ht, q⟩ => by
    obtain ⟨hp, g, d, tk, os⟩ := s
    have hsub := sub_enumerate
    have it : ∀ {A' : Around} {E : Value → Shared → Prop} {Q : Value → Shared → Prop}, Q (.ref hp.objs.size) ⟨hp.push { cls := .type "tuple_iterator", data := .fields #[.ref t, .int 0 0] }, g, d, tk, os⟩ → wpAny (model prog w) A' (pyIter (.ref t)) Q E ⟨hp, g, d, tk, os⟩ :=
      fun k => (begins_tuple t items).iter prog w _ _ ⟨hp, g, d, tk, os⟩ _ ht k
    wp_walk
    refine wpAny_stack_any fun st => wpAny_pure ?_
    split
    · rename_i c _ _ _ _ _
      cases (c == Value.type "enumerate") <;>
      · wp_walk using it
        exact ⟨_, rfl, q⟩
    · wp_walk using it
      exact ⟨_, rfl, q⟩
section
variable {prog : Program} {w : World} {A : Around} {E : Value → Shared → Prop} {s : Shared}
theorem call_enumT {t : Addr} {items : Array Value} {Q : Value → Shared → Prop} (ht : s.heap.IsTuple t items)
    (k : ∀ g, IsEnum g (s.heap.objs.size + 1) s.heap.objs.size 0 .none → g.IsTupleIter s.heap.objs.size t 0 → (∀ b o, s.heap.get? b = some o → g.get? b = some o) → Q (.ref (s.heap.objs.size + 1)) { s with heap := g }) :
    wpAny (model prog w) A (call (.type "enumerate") [.ref t]) Q E s := by
  have one : (s.heap.push { cls := .type "tuple_iterator", data := .fields #[.ref t, .int 0 0] }).objs.size = s.heap.objs.size + 1 := Heap.size_push ..
  have new := Heap.get?_push_size (s.heap.push { cls := .type "tuple_iterator", data := .fields #[.ref t, .int 0 0] }) (o := { cls := .type "enumerate", data := .fields #[.none, .bool false, .ref s.heap.objs.size, rawInt 0, .none, .none] }) rfl
  rw [one] at new
  refine callType_new F.called_enumerate (by decide) (F.typeCall_enumerate_1 _) (F.newCall_enumerate_1 _) (fun obj => F.args_object_init_2 obj _) F.entry_enumerate_new (new_enumT t items) ⟨ht, ?_⟩
  show _ ∧ _
  rw [one]
  exact ⟨⟨_, new, rfl⟩, k _ new ⟨_, Heap.get?_push_of_some _ (Heap.get?_push_size _ rfl), rfl, rfl⟩ fun b o e => Heap.get?_push_of_some _ (Heap.get?_push_of_some _ e)⟩
end
/-- the tuple at a, each item in a new pair -/
def IteT (K : PySem.W.Frag) (a : Addr) : L2.It :=
  ⟨fun i H => ∃ (xs : List V) (x : V), SqT K H a xs ∧ xs[i]? = some x, fun i H v H' => ∃ z x, v = .ref z ∧ H z = none ∧ H' = upd H z (.tup [.int (i : Nat), x]) ∧ ∀ xs, SqT K H a xs → xs[i]? = some x, fun i H => ∃ xs : List V, SqT K H a xs ∧ xs.length = i⟩
theorem turn_enumT {P : Program} {w : World} {K : PySem.W.Frag} {elts : List Expr} {kk : Nat} {tpos : Pos} (a e it : Addr) :
    Turn P w K (.Tuple elts kk tpos) (IteT K a) [e, it] e (fun i h => (∃ old, IsEnum h e it ((i : Nat) : Int) old) ∧ h.IsTupleIter it a i ∧ e ≠ it) where
  mem := List.mem_cons_self
  obj := fun i h ⟨⟨old, he⟩, ⟨o, ho, _, hd⟩, _⟩ b hb => by
    rcases List.mem_cons.mp hb with z | z
    · subst z; exact ⟨_, he, fun v q => nomatch q⟩
    · rw [List.mem_singleton.mp z]; exact ⟨o, ho, fun v q => by rw [hd] at q; cases q⟩
  keep := fun i h h' ⟨⟨old, he⟩, ⟨o, ho, r⟩, ne⟩ k => ⟨⟨old, k e (by simp) _ he⟩, ⟨o, k it (by simp) _ ho, r⟩, ne⟩
  item := by
    intro X hP hw hK hc i pins s σ H E inv fp ⟨⟨old, he⟩, hit, ne⟩ ⟨xs, x, hq, hx⟩
    subst hP hw hK
    obtain ⟨its, rv, tup, _⟩ := inv.tuple hq
    obtain ⟨u, hu, ru⟩ := rv.get hx
    have elt : e < s.heap.objs.size := Heap.lt_size he
    have ilt : it < s.heap.objs.size := by obtain ⟨_, q, _⟩ := hit; exact Heap.lt_size q
    have a_it : a ≠ it := fun z => by
      obtain ⟨o, ho, c1, _⟩ := tup
      obtain ⟨o2, ho2, c2, _⟩ := hit
      rw [z, ho2] at ho
      cases ho
      rw [c2] at c1
      injection c1 with c1
      exact absurd c1 (by decide)
    have a_e : a ≠ e := fun z => by
      obtain ⟨o, ho, c1, _⟩ := tup
      rw [z] at ho
      have := ho.symm.trans he
      cases this
      injection c1 with c1
      exact absurd c1 (by decide)
    have hui : its.toArray[i]? = some u := by simpa using hu
    have lt : i < its.toArray.size := by
      rcases Nat.lt_or_ge i its.toArray.size with c | c
      · exact c
      · rw [Array.getElem?_eq_none c] at hui; cases hui
    refine wpAny_pyNext_enum_itemD (Draws.tuple (A := X.A.in1) (inv.ok.hd hc) it a a_it its.toArray) he ⟨hit, tup⟩ lt ne (by simp [ne, Ne.symm a_e]) fun y g tk hy ho st hT hsz hk => ?_
    have ey : y = u := Option.some.inj (hy.symm.trans hui)
    subst ey
    refine ⟨_, rfl, wpAny_letOwnedTupleGo_enum (s := { s with heap := g, toks := tk + 1 }) ho fun g2 he2 sb => ?_⟩
    have at2 : g2.get? s.heap.objs.size = some { cls := .type "tuple", data := .seq #[.int i tk, y] } := (sb.2 _ (Nat.ne_of_gt elt)).trans hT
    have obj2 : ObjOk X.prog X.w (upd H s.heap.objs.size (.tup [.int (i : Nat), x])) g2 s.heap.objs.size (.tup [.int (i : Nat), x]) :=
      ⟨by show 2 ≤ sizeLine; decide, [.int i tk, y], .cons ⟨_, rfl⟩ (.cons ru .nil), ⟨_, at2, rfl, _, rfl⟩⟩
    have inv2 : Inv X pins σ (upd H s.heap.objs.size (.tup [.int (i : Nat), x])) { s with heap := g2, toks := tk + 1 } :=
      inv.turnedNew (ch := [e, it]) (fun b ob hb q => (sb.2 b (fun z => hb (by simp [z]))).trans (hk b ob (fun z => hb (by simp [z])) (fun z => hb (by simp [z])) q)) fp (Nat.le_refl _) obj2
    refine ⟨.ref s.heap.objs.size, _, inv2, rfl, ⟨_, x, rfl, inv.hok.fresh (Nat.le_refl _), rfl, fun ys hy => by rw [inv.tuple_inj hy hq]; exact hx⟩, ⟨⟨y, ?_⟩, ?_, ne⟩, fun b hb => ?_⟩
    · rw [show ((i + 1 : Nat) : Int) = (i : Int) + 1 by omega]
      exact he2
    · obtain ⟨o, ho, r⟩ := st.1
      exact ⟨o, (sb.2 it (Ne.symm ne)).trans ho, r⟩
    · have lt2 : b < s.heap.objs.size := by
        rcases List.mem_cons.mp hb with z | z
        · rw [z]; exact elt
        · rw [List.mem_singleton.mp z]; exact ilt
      rw [upd_ne (Nat.ne_of_lt lt2)]
      exact (fp b hb).1
  done := by
    intro X hP hw hK hc i pins s σ H E inv fp ⟨⟨old, he⟩, hit, ne⟩ ⟨xs, hq, hx⟩
    subst hP hw hK
    obtain ⟨its, rv, tup, _⟩ := inv.tuple hq
    obtain ⟨f0, f1, f2, f3, f4, f5⟩ := fp it (by simp)
    have len := rv.length
    have a_it : a ≠ it := fun z => by
      obtain ⟨o, ho, c1, _⟩ := tup
      obtain ⟨o2, ho2, c2, _⟩ := hit
      rw [z, ho2] at ho
      cases ho
      rw [c2] at c1
      injection c1 with c1
      exact absurd c1 (by decide)
    have at_end : s.heap.IsTupleIter it a its.toArray.size := by
      rw [show its.toArray.size = i by simp; omega]
      exact hit
    exact wpAny_pyNext_enum_endD (Draws.tuple (A := X.A.in1) (inv.ok.hd hc) it a a_it its.toArray) he ⟨at_end, tup⟩ fun g eb => ⟨rfl, inv.turned (t' := s.toks) (fun b o hb q => eb b o hb q) f0 f1 f3 f4 f5⟩
  self := fun A i s Q E st k => let ⟨⟨_, he⟩, _⟩ := st; wpAny_pyIter_enum he k
def iEnumU (K : PySem.W.Frag) (ta : TA) : TI := fun σ H R => ta σ H fun vs H1 => (∃ a xs, vs = [.ref a] ∧ SqL K H1 a xs ∧ R (Ite K a) H1) ∨ ∃ a xs, vs = [.ref a] ∧ SqT K H1 a xs ∧ R (IteT K a) H1
theorem pi_enumU {X : Cx} {e : Expr} {ta : TA} {p pos tpos : Pos} {elts : List Expr} {kk : Nat} (hg : Gl X "enumerate") (hm : X.mg "enumerate" = none) (ha : PA X [e] ta) (hs : starEach [e] X.env = [(false, eval e X.env)] := by rfl) :
    PI X (.Tuple elts kk tpos) (.Call (.Name "enumerate" p) [e] [] pos) (iEnumU X.K ta) := by
  refine ⟨fun pins s σ H R I h => ?_⟩
  refine Call_ (ld_blt I hg hm boot_enumerate (PyProof.Rows.callWith_type1 (thn (ha.run pos pins s σ H _ I h) fun us s1 ⟨vs, H1, I1, r1, q1⟩ => ?_) hs rfl))
  have far : ∀ b, s1.heap.objs.size ≤ b → FpOk X pins H1 b := fun b le => I1.fpOk le (I1.hok.fresh le)
  have two : ∀ b ∈ [s1.heap.objs.size + 1, s1.heap.objs.size], FpOk X pins H1 b := fun b hb => far b (by
    rcases List.mem_cons.mp hb with z | z
    · omega
    · rw [List.mem_singleton.mp z]; exact Nat.le_refl _)
  rcases q1 with ⟨a, xs, rfl, hq, q⟩ | ⟨a, xs, rfl, hq, q⟩
  · cases r1 with
    | cons r rr =>
      cases rr
      cases r
      obtain ⟨its, rv, lst, _⟩ := I1.list hq
      exact call_enumerate_list lst.isList fun g he hit hsz hk => wpAny_pyIter_enum he ⟨s1.heap.objs.size + 1, [s1.heap.objs.size + 1, s1.heap.objs.size], _, _, H1, rfl, I1.kept (t' := s1.toks) hk, turn_enum a (s1.heap.objs.size + 1) s1.heap.objs.size, ⟨⟨.none, he⟩, hit, Nat.succ_ne_self _⟩, two, q⟩
  · cases r1 with
    | cons r rr =>
      cases rr
      cases r
      obtain ⟨its, rv, tup, _⟩ := I1.tuple hq
      exact call_enumT tup fun g he hit hk => wpAny_pyIter_enum he ⟨s1.heap.objs.size + 1, [s1.heap.objs.size + 1, s1.heap.objs.size], _, _, H1, rfl, I1.kept (t' := s1.toks) hk, turn_enumT a (s1.heap.objs.size + 1) s1.heap.objs.size, ⟨⟨.none, he⟩, hit, Nat.succ_ne_self _⟩, two, q⟩
theorem kx_enumU {X : Cx} {e : Expr} {ta : TA} {p pos tpos : Pos} {elts : List Expr} {kk : Nat} (K : PySem.W.Frag) (hK : X.K = K) (hg : Gl X "enumerate") (hm : X.mg "enumerate" = none) (ha : PA X [e] ta) (hs : starEach [e] X.env = [(false, eval e X.env)] := by rfl) :
    PI X (.Tuple elts kk tpos) (.Call (.Name "enumerate" p) [e] [] pos) (iEnumU K ta) := by subst hK; exact pi_enumU hg hm ha hs
section
variable {K : PySem.W.Frag} {δ : List (Option D)} {m : Mem}
theorem feeds_enumT {a : Addr} {xs : List V} {ds : List D} {F0 : Hp} (e : SqT K F0 a xs) (r : RdL K F0 xs ds) : Feeds K (IteT K a) F0 (enumD ds) := by
  have l := r.length
  have l2 : (enumD ds).length = ds.length := by simp [enumD]
  have at_ : ∀ (m : Mem) (H : Hp), Sub F0 (hide m H) → SqT K H a xs := fun m H s => hide_le.sqt (s.sqt e)
  refine ⟨fun i m H s M h => ?_, fun i m H x H' d s M h y => ?_, fun m H s M => ?_⟩
  · rw [l2] at h
    exact ⟨xs, xs[i]'(by omega), at_ m H s, by simp [l, h]⟩
  · obtain ⟨T, v, rfl, hT, rfl, y⟩ := y
    unfold enumD at h
    rw [List.getElem?_map, List.getElem?_zipIdx] at h
    cases q : ds[i]? with
    | none => rw [q] at h; cases h
    | some z =>
      rw [q] at h
      cases h
      obtain ⟨v', h1, h2⟩ := r.get q
      have w := y xs (at_ m H s)
      rw [h1] at w
      cases w
      obtain ⟨M2, s2, r2⟩ := new_tup (ds := [D.int ((i : Nat) : Int), z]) M (.cons (.int _) (.cons (h2.mono s) .nil)) hT
      exact ⟨s2, M2, by simpa using r2⟩
  · exact ⟨xs, at_ m H s, by omega⟩
/-- enumerate(x), x a list or a tuple that is data -/
theorem iw_enumU {t : TA} {Q : List D → Mem → Prop} (h : AW K t δ m fun xs m1 => ∃ ds, (xs = [.lst ds] ∨ xs = [.tup ds]) ∧ Q (enumD ds) m1) : IW K (iEnumU K t) δ m Q := fun σ H s M R k =>
  h σ H s M _ fun x m1 v H1 ⟨ds, ex, q⟩ s1 M1 r1 => by
    rcases ex with rfl | rfl
    · cases r1 with
      | cons r1 r2 =>
        cases r2
        cases r1 with
        | lst e r => exact .inl ⟨_, _, rfl, SqL.of (hide_le _ _ e), k _ H1 m1 _ q s1 M1 (feeds_enum e r)⟩
    · cases r1 with
      | cons r1 r2 =>
        cases r2
        cases r1 with
        | tup e r => exact .inr ⟨_, _, rfl, hide_le.sqt e, k _ H1 m1 _ q s1 M1 (feeds_enumT e r)⟩
end
/-! ### a part of a list, a text, a tuple -/
def rSlV (K : PySem.W.Frag) : V → Option Int → Option Int → Hp → VK → Prop := fun x lo hi H Q => rSlU K x lo hi H Q ∨ rSlA K x lo hi H Q
theorem kx_slV {X : Cx} (K : PySem.W.Frag) (hK : X.K = K) : SlR X (rSlV K) := by subst hK; exact SlR.or sl_U sl_tupA
section
variable {K : PySem.W.Frag} {m : Mem} {Q : D → Mem → Prop}
theorem lw_VL {ds : List D} {lo hi : Option Int} (q : Q (.lst (cutD ds lo hi)) m) : LW (K := K) (rSlV K) (.lst ds) lo hi m Q := fun H v M a QQ k => .inl (lw_L q H v M a QQ k)
theorem lw_VT {ds : List D} {lo hi : Option Int} (ne : ¬ (HT.sIx ds.length 0 lo = 0 ∧ HT.sIx ds.length ds.length hi = ds.length)) (q : Q (.tup (cutD ds lo hi)) m) : LW (K := K) (rSlV K) (.tup ds) lo hi m Q := fun H v M a QQ k => by
  obtain ⟨p, vs, rfl, e, r⟩ := tup_at a
  have l : vs.length = ds.length := r.length
  refine .inr ⟨p, vs, rfl, e, fun c => absurd (by rw [l] at c; exact c) ne, fun _ z hz => ?_⟩
  obtain ⟨M2, s2, r3⟩ := new_tup M (r.cut lo hi) hz
  exact k _ m _ _ q s2 M2 r3
theorem six_to {n i : Nat} (h : i ≤ n) : HT.sIx n n (some ((i : Nat) : Int)) = i := by
  rw [HT.sIx_nat]
  exact Nat.min_eq_left h
end
end DL

set_option Elab.async false
set_option linter.all false
set_option maxRecDepth 100000
set_option maxHeartbeats 1000000
set_option autoImplicit false
/-! enumerate(xs), xs a list that is data or a cell; a dict told by what was lent lists; lists of cells turned round. -/
namespace DL
open PySem PySem.Spec PyProof.Rows L2
section
variable {K : PySem.W.Frag} {δ δ' : List (Option D)} {m m0 m1 r : Mem} {Q : D → Mem → Prop} {te tl : TE} {P : Ps} {t : TS} {tt : TT} {g : TG} {ta : TA}
/-- for i, x in enumerate(xs), xs a list that is data or a cell -/
theorem sw_forEQ (h : AW K ta δ m fun vs m1 => ∃ x, vs = [x] ∧ ∃ (α : Type) (xs : List α) (f : α → D), SeqIn m1 x (xs.map f) ∧ ∃ Iv : Nat → List (Option D) → Mem → Prop, Iv 0 δ m1 ∧ (∀ (j : Nat) (δ' : List (Option D)) (m' : Mem), Iv j δ' m' → SeqIn m' x (xs.map f)) ∧
      (∀ (j : Nat) (y : α) (δ' : List (Option D)) (m' : Mem), xs[j]? = some y → Iv j δ' m' → GW K g (.tup [.int (j : Nat), f y]) δ' m' fun δ2 m2 => SW K t δ2 m2 { nx := Iv (j + 1), ct := Iv (j + 1), bk := P.nx, rt := P.rt }) ∧
      (∀ (δ' : List (Option D)) (m' : Mem), Iv xs.length δ' m' → P.nx δ' m')) : SW K (tFor (iEnum K ta) g t) δ m P := fun σ H s M E k =>
  h σ H s M _ fun vs m1 us H1 ⟨x, ev, α, xs, f, hx, Iv, h0, hsq, hs, hd⟩ s1 M1 r1 => by
    subst ev
    cases r1 with
    | cons r1 r2 =>
      cases r2
      obtain ⟨a, ws, rfl, ea, ra⟩ := hx.get M1 r1
      refine ⟨a, ws, rfl, SqL.of ea, ?_⟩
      refine ⟨fun i n σ' H' => n = xs.length - i ∧ i ≤ xs.length ∧ ∃ δ' m', Iv i δ' m' ∧ Sub (hide m1 H1) (hide m' H') ∧ Sl K (hide m' H') σ' δ' ∧ MemOk K m' H', ⟨xs.length, rfl, Nat.zero_le _, δ, m1, h0, Sub.refl _, s.mono s1, M1⟩, ?_⟩
      rintro i n σ' H' ⟨rfl, hi, δ', m', hI, s2, S2, M2⟩
      obtain ⟨a', ws', ev, ea', ra'⟩ := (hsq i δ' m' hI).get M2 (r1.mono s2)
      cases ev
      have lw : ws'.length = xs.length := by rw [ra'.length, List.length_map]
      by_cases hlt : i < xs.length
      · refine .inr ⟨⟨ws', ws'[i]'(by omega), SqL.of ea', by simp [lw, hlt]⟩, fun σ3 H3 => ∃ δ3 m3, Iv (i + 1) δ3 m3 ∧ Sub (hide m1 H1) (hide m3 H3) ∧ Sl K (hide m3 H3) σ3 δ3 ∧ MemOk K m3 H3, fun σ3 H3 q => ⟨xs.length - (i + 1), by omega, rfl, hlt, q⟩, fun x3 H3 y => ?_⟩
        have hdi : xs[i]? = some xs[i] := List.getElem?_eq_getElem hlt
        obtain ⟨T, v, rfl, hT, rfl, y⟩ := y
        obtain ⟨u, h1, h2⟩ := ra'.get (show (xs.map f)[i]? = some (f xs[i]) by rw [List.getElem?_map, hdi]; rfl)
        have z := y ws' (SqL.of ea')
        rw [h1] at z
        cases z
        obtain ⟨M3, s3, r3⟩ := new_tup (ds := [D.int ((i : Nat) : Int), f xs[i]]) M2 (.cons (.int _) (.cons h2 .nil)) hT
        refine hs i _ δ' m' hdi hI σ' _ _ (S2.mono s3) M3 r3 _ fun δ4 m4 σ4 H4 q4 s4 S4 M4 => ?_
        have s34 : Sub (hide m1 H1) (hide m4 H4) := s2.trans (s3.trans s4)
        refine q4 σ4 H4 S4 M4 _ ⟨?_, ?_, ?_, ?_⟩
        · exact fun δ5 m5 σ5 H5 q5 s5 S5 M5 => ⟨δ5, m5, q5, s34.trans s5, S5, M5⟩
        · exact fun d m5 v H5 q5 s5 M5 r5 => k.rt d m5 v H5 q5 (s1.trans (s34.trans s5)) M5 r5
        · exact fun δ5 m5 σ5 H5 q5 s5 S5 M5 => k.nx δ5 m5 σ5 H5 q5 (s1.trans (s34.trans s5)) S5 M5
        · exact fun δ5 m5 σ5 H5 q5 s5 S5 M5 => ⟨δ5, m5, q5, s34.trans s5, S5, M5⟩
      · have e : i = xs.length := by omega
        subst e
        exact .inl ⟨⟨ws', SqL.of ea', by omega⟩, k.nx δ' m' σ' H' (hd δ' m' hI) (s1.trans s2) S2 M2⟩
/-- a dict of plain values, told by what was lent lists as data -/
theorem ew_lendD (L : Lent r δ δ') (ow : ∀ x ∈ r, x.2.own = true ∧ ∀ kvs, x.2 ≠ .dic kvs) (h : EW K te δ' m0 fun d m1 => (∃ kvs : List (Key × D), d = .dic kvs ∧ (kvs.map Prod.snd).all D.sc = true) ∧ (∀ x ∈ m1, x.2.flat = true) ∧ Q d (m1 ++ r)) : EW K te δ (m0 ++ r) Q := fun σ H s M QQ k =>
  h σ H (L.sl M s) (MemOk.dropG r M).1 QQ fun d m1 v H1 ⟨⟨kvs, ed, sd⟩, fl, q⟩ s1 M1 r1 => by
    obtain ⟨M2, s2, t⟩ := lend_back M (fun x hx => (ow x hx).1) s1 M1 fl
    subst ed
    cases r1 with
    | dic e n rr =>
      rename_i a vs
      refine k _ _ _ H1 q s2 M2 (.dic ?_ n (RdL.sc sd rr))
      have n1 : a ∉ m1.map Prod.fst := fun z => by rw [hide_in z] at e; cases e
      rw [hide_out n1] at e
      have n2 : a ∉ r.map Prod.fst := fun z => by
        obtain ⟨⟨a', c'⟩, hc', rfl⟩ := List.mem_map.mp z
        have at2 := M2.at_ a' c' (List.mem_append_right _ hc')
        obtain ⟨o1, o2⟩ := ow _ hc'
        cases c' with
        | lst ds => obtain ⟨xs, e2, _⟩ := at2; rw [e2] at e; cases e
        | dic kvs => exact o2 kvs rfl
        | ins C fs => obtain ⟨dx, xs, e2, _⟩ := at2; rw [e2] at e; cases e
        | xd fs => obtain ⟨xs, e2, _⟩ := at2; rw [e2] at e; cases e
        | obj o => cases o1
        | tbl q => obtain ⟨ps, e2, _⟩ := at2; rw [e2] at e; cases e
      rw [hide_out (by rw [List.map_append, List.mem_append, not_or]; exact ⟨n1, n2⟩)]
      exact e
end
/-! ### things that may be shown, and whose texts may be -/
theorem char_ok (ch : Char) : ch.toNat < 1114112 := by
  have h := ch.valid
  unfold UInt32.isValidChar Nat.isValidChar at h
  show ch.val.toNat < 1114112
  omega
theorem ok_hex (w c : Nat) : ∀ x ∈ (List.replicate (w - ((Nat.toDigits 16 c).map Char.toNat).length) 48 ++ (Nat.toDigits 16 c).map Char.toNat), x < 1114112 := fun x hx => by
  rcases List.mem_append.mp hx with hx | hx
  · rw [(List.mem_replicate.mp hx).2]; decide
  · obtain ⟨ch, _, rfl⟩ := List.mem_map.mp hx
    exact char_ok ch
theorem ok_two {a b : Nat} (ha : a < 1114112) (hb : b < 1114112) : ∀ x ∈ [a, b], x < 1114112 := fun x hx => by
  rcases List.mem_cons.mp hx with rfl | hx
  · exact ha
  · rw [List.mem_singleton.mp hx]; exact hb
theorem ok_app {l k : List Nat} (ha : ∀ x ∈ l, x < 1114112) (hb : ∀ x ∈ k, x < 1114112) : ∀ x ∈ l ++ k, x < 1114112 := fun x hx => (List.mem_append.mp hx).elim (ha x) (hb x)
theorem ok_reprChar {q c : Nat} (hq : q < 1114112) (hc : c < 1114112) : ∀ x ∈ Builtin.Str.reprChar q c, x < 1114112 := by
  unfold Builtin.Str.reprChar
  dsimp only
  split
  · exact ok_two (by decide) hc
  split
  · exact ok_two (by decide) (by decide)
  split
  · exact ok_two (by decide) (by decide)
  split
  · exact ok_two (by decide) (by decide)
  split
  · exact fun x hx => by rw [List.mem_singleton.mp hx]; exact hc
  split
  · exact ok_app (ok_two (by decide) (by decide)) (ok_hex 2 c)
  split
  · exact ok_app (ok_two (by decide) (by decide)) (ok_hex 4 c)
  · exact ok_app (ok_two (by decide) (by decide)) (ok_hex 8 c)
theorem ok_fold {q : Nat} (hq : q < 1114112) : ∀ (l : List Nat) (acc : Array Nat), (∀ c ∈ l, c < 1114112) → (∀ c ∈ acc.toList, c < 1114112) → ∀ c ∈ (l.foldl (fun out c => out ++ (Builtin.Str.reprChar q c).toArray) acc).toList, c < 1114112
  | [], acc, _, h => h
  | c :: r, acc, h, k => by
    rw [List.foldl_cons]
    refine ok_fold hq r _ (fun d hd => h d (List.mem_cons_of_mem _ hd)) ?_
    rw [Array.toList_append]
    exact ok_app k (ok_reprChar hq (h c List.mem_cons_self))
theorem sOk_repr {x : Str} (h : PyData.strOk x = true) : PyData.strOk (PyData.str x).shown = true := by
  rw [PyData.shown_str, sOk_iff]
  have hq : reprQuote x < 1114112 := by
    unfold reprQuote
    split <;> decide
  show ∀ c ∈ ((x.cps.foldl (fun out c => out ++ (Builtin.Str.reprChar (reprQuote x) c).toArray) #[reprQuote x]).push (reprQuote x)).toList, c < 1114112
  rw [Array.toList_push, ← Array.foldl_toList]
  exact ok_app (ok_fold hq _ _ (sOk_iff.mp h) fun c hc => by rw [List.mem_singleton.mp hc]; exact hq) fun c hc => by rw [List.mem_singleton.mp hc]; exact hq
/-- a thing that may be shown, and whose text may be shown -/
structure TwQ (n B : Nat) (d : PyData) : Prop where
  shw : Shw n B d
  ok : PyData.strOk d.shown = true
theorem twQ_bl (b : Bool) : TwQ 0 300 (D.bl b).py := by
  rw [show (D.bl b).py = .bool b by simp only [D.py]]
  exact ⟨⟨by simp only [PyData.showable], by simp only [PyData.hasDict], by simp only [PyData.depth]; omega, by simp only [PyData.shown]; cases b <;> decide⟩, by simp only [PyData.shown]; cases b <;> decide +kernel⟩
theorem twQ_int {i : Int} (h : i.natAbs < 10 ^ 25) : TwQ 0 300 (D.int i).py := by
  rw [show (D.int i).py = .int i by simp only [D.py]]
  exact ⟨(Shw.intW h).up (Nat.le_refl _) (by decide), by simp only [PyData.shown]; exact sOk_of _⟩
theorem twQ_str {x : Str} (h : PyData.strOk x = true) (l : x.length ≤ 25) : TwQ 0 300 (D.str x).py := by
  rw [show (D.str x).py = .str x by simp only [D.py]]
  exact ⟨(Shw.str h).up (Nat.le_refl _) (by omega), sOk_repr h⟩
theorem twQ_non : TwQ 0 300 D.non.py := by
  rw [show D.non.py = .none by simp only [D.py]]
  exact ⟨Shw.non.up (Nat.le_refl _) (by decide), by simp only [PyData.shown]; decide +kernel⟩
theorem sOkJ {sep : Str} (hs : PyData.strOk sep = true) : ∀ ts : List Str, (∀ t ∈ ts, PyData.strOk t = true) → PyData.strOk (Str.join sep ts) = true
  | [], _ => by
    rw [sOk_iff]; intro c hc; have hc : c ∈ ([] : List Nat) := hc
    cases hc
  | [x], h => h x List.mem_cons_self
  | x :: y :: r, h => by
    show PyData.strOk (x ++ sep ++ Str.join sep (y :: r)) = true
    exact sOk_app (sOk_app (h x List.mem_cons_self) hs) (sOkJ hs (y :: r) fun t ht => h t (List.mem_cons_of_mem _ ht))
theorem sOkT {xs : List PyData} (h : ∀ x ∈ xs, PyData.strOk x.shown = true) : PyData.strOk (PyData.tuple xs).shown = true := by
  simp only [PyData.shown, tupleText]
  refine sOk_app (sOk_app (sOk_of _) (sOkJ (sOk_of _) _ fun t ht => ?_)) (by split <;> exact sOk_of _)
  rw [shownAll_map] at ht
  obtain ⟨x, hx, rfl⟩ := List.mem_map.mp ht
  exact h x hx
theorem TwQ.up {n n' B B' : Nat} {d : PyData} (h : TwQ n B d) (a : n ≤ n') (b : B ≤ B') : TwQ n' B' d := ⟨h.shw.up a b, h.ok⟩
theorem TwQ.list {n B N : Nat} {xs : List D} (h : ∀ x ∈ xs, TwQ n B x.py) (hN : xs.length ≤ N) : TwQ (n + 1) (N * (B + 2) + 3) (D.lst xs).py := by
  rw [show (D.lst xs).py = .list (xs.map D.py) by simp only [D.py]; rw [pyL_map]]
  have k : ∀ y ∈ xs.map D.py, TwQ n B y := fun y hy => by
    obtain ⟨x, hx, rfl⟩ := List.mem_map.mp hy
    exact h x hx
  refine ⟨(Shw.list fun y hy => (k y hy).shw).up (Nat.le_refl _) ?_, sOk_list fun y hy => (k y hy).ok⟩
  rw [List.length_map]
  exact Nat.add_le_add_right (Nat.mul_le_mul_right _ hN) _
theorem TwQ.tup {n B N : Nat} {xs : List D} (h : ∀ x ∈ xs, TwQ n B x.py) (hN : xs.length ≤ N) : TwQ (n + 1) (N * (B + 2) + 3) (D.tup xs).py := by
  rw [show (D.tup xs).py = .tuple (xs.map D.py) by simp only [D.py]; rw [pyL_map]]
  have k : ∀ y ∈ xs.map D.py, TwQ n B y := fun y hy => by
    obtain ⟨x, hx, rfl⟩ := List.mem_map.mp hy
    exact h x hx
  refine ⟨(Shw.tuple fun y hy => (k y hy).shw).up (Nat.le_refl _) ?_, sOkT fun y hy => (k y hy).ok⟩
  rw [List.length_map]
  exact Nat.add_le_add_right (Nat.mul_le_mul_right _ hN) _
end DL

set_option Elab.async false
set_option linter.all false
set_option maxRecDepth 100000
set_option maxHeartbeats 4000000
set_option autoImplicit false
namespace DL
open PySem PySem.Spec PyProof.Rows L2
def top (i : Nat) : Stmt := PySem.Challenge.pw_anycut_k02_services_as_constructed.main.body.getD i (.Pass ⟨0, 0, 0, 0⟩)
def clsBody : Stmt → List Stmt
  | .ClassDef (body := b) .. => b
  | _ => []
abbrev s_CutError___init__ : Stmt := (clsBody (top 1)).getD 0 (.Pass ⟨0, 0, 0, 0⟩)
abbrev N_CutError___init__ : List Str := ["self", "value"]
theorem sc_CutError___init__ : FnScope N_CutError___init__ ["self", "value"] (defScope s_CutError___init__) := ⟨rfl, rfl, rfl, by decide +kernel, rfl, by decide +kernel, by decide +kernel⟩
abbrev s_is_state : Stmt := top 13
abbrev N_is_state : List Str := ["number", "many"]
theorem sc_is_state : FnScope N_is_state ["number", "many"] (defScope s_is_state) := ⟨rfl, rfl, rfl, by decide +kernel, rfl, by decide +kernel, by decide +kernel⟩
abbrev s_Service_check : Stmt := (clsBody (top 17)).getD 7 (.Pass ⟨0, 0, 0, 0⟩)
abbrev N_Service_check : List Str := ["self", "row", "state", "name"]
theorem sc_Service_check : FnScope N_Service_check ["self", "row", "state"] (defScope s_Service_check) := ⟨rfl, rfl, rfl, by decide +kernel, rfl, by decide +kernel, by decide +kernel⟩
abbrev s_Service_run : Stmt := (clsBody (top 17)).getD 8 (.Pass ⟨0, 0, 0, 0⟩)
abbrev N_Service_run : List Str := ["self", "row", "state", "answers", "name", "answer"]
theorem sc_Service_run : FnScope N_Service_run ["self", "row", "state"] (defScope s_Service_run) := ⟨rfl, rfl, rfl, by decide +kernel, rfl, by decide +kernel, by decide +kernel⟩
abbrev s__law_ran : Stmt := top 26
abbrev N__law_ran : List Str := ["names_here", "grid", "row_here", "at", "told", "label", "answer"]
theorem sc__law_ran : FnScope N__law_ran ["names_here", "grid", "row_here", "at"] (defScope s__law_ran) := ⟨rfl, rfl, rfl, by decide +kernel, rfl, by decide +kernel, by decide +kernel⟩
abbrev s__law_toss : Stmt := top 20
abbrev N__law_toss : List Str := ["kit", "many", "taken", "mixed"]
theorem sc__law_toss : FnScope N__law_toss ["kit", "many"] (defScope s__law_toss) := ⟨rfl, rfl, rfl, by decide +kernel, rfl, by decide +kernel, by decide +kernel⟩
abbrev s_Service___getitem__ : Stmt := (clsBody (top 17)).getD 5 (.Pass ⟨0, 0, 0, 0⟩)
abbrev N_Service___getitem__ : List Str := ["self", "at", "row"]
theorem sc_Service___getitem__ : FnScope N_Service___getitem__ ["self", "at"] (defScope s_Service___getitem__) := ⟨rfl, rfl, rfl, by decide +kernel, rfl, by decide +kernel, by decide +kernel⟩
abbrev s_Service___len__ : Stmt := (clsBody (top 17)).getD 3 (.Pass ⟨0, 0, 0, 0⟩)
abbrev N_Service___len__ : List Str := ["self"]
theorem sc_Service___len__ : FnScope N_Service___len__ ["self"] (defScope s_Service___len__) := ⟨rfl, rfl, rfl, by decide +kernel, rfl, by decide +kernel, by decide +kernel⟩
abbrev s_Service_table : Stmt := (clsBody (top 17)).getD 2 (.Pass ⟨0, 0, 0, 0⟩)
abbrev N_Service_table : List Str := ["self", "row"]
theorem sc_Service_table : FnScope N_Service_table ["self"] (defScope s_Service_table) := ⟨rfl, rfl, rfl, by decide +kernel, rfl, by decide +kernel, by decide +kernel⟩
abbrev s_Service_calls : Stmt := (clsBody (top 17)).getD 1 (.Pass ⟨0, 0, 0, 0⟩)
abbrev N_Service_calls : List Str := ["self"]
theorem sc_Service_calls : FnScope N_Service_calls ["self"] (defScope s_Service_calls) := ⟨rfl, rfl, rfl, by decide +kernel, rfl, by decide +kernel, by decide +kernel⟩
abbrev s__law_told_right : Stmt := top 29
abbrev N__law_told_right : List Str := ["made", "names_here", "least", "turn", "told", "spot", "label", "steps_here", "at", "line"]
theorem sc__law_told_right : FnScope N__law_told_right ["made", "names_here", "least"] (defScope s__law_told_right) := ⟨rfl, rfl, rfl, by decide +kernel, rfl, by decide +kernel, by decide +kernel⟩
abbrev s__law_walked : Stmt := top 25
abbrev N__law_walked : List Str := ["grid", "order", "found", "turn", "line", "follow", "answer"]
theorem sc__law_walked : FnScope N__law_walked ["grid"] (defScope s__law_walked) := ⟨rfl, rfl, rfl, by decide +kernel, rfl, by decide +kernel, by decide +kernel⟩
abbrev s_reached : Stmt := top 16
abbrev N_reached : List Str := ["table", "found", "known", "at", "row", "onward", "_"]
theorem sc_reached : FnScope N_reached ["table"] (defScope s_reached) := ⟨rfl, rfl, rfl, by decide +kernel, rfl, by decide +kernel, by decide +kernel⟩
abbrev s_check_table : Stmt := top 15
abbrev N_check_table : List Str := ["table", "width", "index", "row", "step"]
theorem sc_check_table : FnScope N_check_table ["table", "width"] (defScope s_check_table) := ⟨rfl, rfl, rfl, by decide +kernel, rfl, by decide +kernel, by decide +kernel⟩
abbrev s_is_name : Stmt := top 10
abbrev N_is_name : List Str := ["word", "letter"]
theorem sc_is_name : FnScope N_is_name ["word"] (defScope s_is_name) := ⟨rfl, rfl, rfl, by decide +kernel, rfl, by decide +kernel, by decide +kernel⟩
abbrev s_check_name : Stmt := top 11
abbrev N_check_name : List Str := ["word"]
theorem sc_check_name : FnScope N_check_name ["word"] (defScope s_check_name) := ⟨rfl, rfl, rfl, by decide +kernel, rfl, by decide +kernel, by decide +kernel⟩
abbrev s_check_names : Stmt := top 14
abbrev N_check_names : List Str := ["names", "seen", "name"]
theorem sc_check_names : FnScope N_check_names ["names"] (defScope s_check_names) := ⟨rfl, rfl, rfl, by decide +kernel, rfl, by decide +kernel, by decide +kernel⟩
abbrev s_Service___init__ : Stmt := (clsBody (top 17)).getD 0 (.Pass ⟨0, 0, 0, 0⟩)
abbrev N_Service___init__ : List Str := ["self", "names", "table", "found", "numbers", "number", "state", "place", "name", "onward", "answer"]
theorem sc_Service___init__ : FnScope N_Service___init__ ["self", "names", "table"] (defScope s_Service___init__) := ⟨rfl, rfl, rfl, by decide +kernel, rfl, by decide +kernel, by decide +kernel⟩
abbrev s__law_turned : Stmt := top 28
abbrev N__law_turned : List Str := ["kit", "grid", "order", "turn", "at", "step"]
theorem sc__law_turned : FnScope N__law_turned ["kit", "grid"] (defScope s__law_turned) := ⟨rfl, rfl, rfl, by decide +kernel, rfl, by decide +kernel, by decide +kernel⟩
abbrev s__law_answer : Stmt := top 22
abbrev N__law_answer : List Str := ["kit"]
theorem sc__law_answer : FnScope N__law_answer ["kit"] (defScope s__law_answer) := ⟨rfl, rfl, rfl, by decide +kernel, rfl, by decide +kernel, by decide +kernel⟩
abbrev s__law_column : Stmt := top 23
abbrev N__law_column : List Str := ["kit", "many", "way", "goal", "shared", "at"]
theorem sc__law_column : FnScope N__law_column ["kit", "many"] (defScope s__law_column) := ⟨rfl, rfl, rfl, by decide +kernel, rfl, by decide +kernel, by decide +kernel⟩
abbrev s__law_grid : Stmt := top 24
abbrev N__law_grid : List Str := ["kit", "many", "count", "columns", "turn", "at", "column"]
theorem sc__law_grid : FnScope N__law_grid ["kit", "many", "count"] (defScope s__law_grid) := ⟨rfl, rfl, rfl, by decide +kernel, rfl, by decide +kernel, by decide +kernel⟩
abbrev s__law_tags : Stmt := top 21
abbrev N__law_tags : List Str := ["kit", "many", "letters", "way", "at", "texts_here", "stem", "spot", "pace", "k", "turn"]
theorem sc__law_tags : FnScope N__law_tags ["kit", "many"] (defScope s__law_tags) := ⟨rfl, rfl, rfl, by decide +kernel, rfl, by decide +kernel, by decide +kernel⟩
abbrev s__law_fits : Stmt := top 30
abbrev N__law_fits : List Str := ["kit", "names_here", "grid", "least", "turned", "handed", "one_here", "two_here", "is_clear", "line", "at", "owed", "step", "made"]
theorem sc__law_fits : FnScope N__law_fits ["kit"] (defScope s__law_fits) := ⟨rfl, rfl, rfl, by decide +kernel, rfl, by decide +kernel, by decide +kernel⟩
abbrev s__law_kit : Stmt := top 19
abbrev N__law_kit : List Str := ["script", "place", "figure", "start"]
theorem sc__law_kit : FnScope N__law_kit ["script", "place"] (defScope s__law_kit) := ⟨rfl, rfl, rfl, by decide +kernel, rfl, by decide +kernel, by decide +kernel⟩
abbrev s_law : Stmt := top 31
abbrev N_law : List Str := ["script", "place", "kit", "turn"]
theorem sc_law : FnScope N_law ["script"] (defScope s_law) := ⟨rfl, rfl, rfl, by decide +kernel, rfl, by decide +kernel, by decide +kernel⟩
structure Ads where
  c_CutError : Addr
  c_InvalidName : Addr
  c_InvalidState : Addr
  c_Service : Addr
  c_UnknownCall : Addr
  f_CutError___init__ : Addr
  f_is_state : Addr
  f_Service_check : Addr
  f_Service_run : Addr
  f__law_ran : Addr
  f__law_toss : Addr
  f_Service___getitem__ : Addr
  f_Service___len__ : Addr
  f_Service_table : Addr
  f_Service_calls : Addr
  f__law_told_right : Addr
  f__law_walked : Addr
  f_reached : Addr
  f_check_table : Addr
  f_is_name : Addr
  f_check_name : Addr
  f_check_names : Addr
  f_Service___init__ : Addr
  f__law_turned : Addr
  f__law_answer : Addr
  f__law_column : Addr
  f__law_grid : Addr
  f__law_tags : Addr
  f__law_fits : Addr
  f__law_kit : Addr
  f_law : Addr
structure Txt (K : PySem.W.Frag) (mg : Str → Option Value) (a : Ads) : Prop where
  n_abs : mg "abs" = none
  n_all : mg "all" = none
  n_bool : mg "bool" = none
  n_enumerate : mg "enumerate" = none
  n_int : mg "int" = none
  n_isinstance : mg "isinstance" = none
  n_len : mg "len" = none
  n_list : mg "list" = none
  n_max : mg "max" = none
  n_min : mg "min" = none
  n_range : mg "range" = none
  n_repr : mg "repr" = none
  n_set : mg "set" = none
  n_str : mg "str" = none
  g_LETTERS : ∃ u, mg "LETTERS" = some u ∧ RelV (.str "abcdefghijklmnopqrstuvwxyz") u
  g_MOST_LETTERS : ∃ u, mg "MOST_LETTERS" = some u ∧ RelV (.int 8) u
  g_CutError : mg "CutError" = some (.ref a.c_CutError)
  g_InvalidName : mg "InvalidName" = some (.ref a.c_InvalidName)
  g_InvalidState : mg "InvalidState" = some (.ref a.c_InvalidState)
  g_Service : mg "Service" = some (.ref a.c_Service)
  cl_Service : Cls K a.c_Service
  na_Service__names : NoAttr K a.c_Service "_names"
  na_Service__places : NoAttr K a.c_Service "_places"
  na_Service__rows : NoAttr K a.c_Service "_rows"
  na_Service_value : NoAttr K a.c_Service "value"
  g_UnknownCall : mg "UnknownCall" = some (.ref a.c_UnknownCall)
  er_CutError : ErrC K a.c_CutError a.f_CutError___init__
  xf_CutError : XfC K a.c_CutError
  xc_CutError : ExcC K a.c_CutError
  su_CutError_CutError : PySem.W.subIn K (.ref a.c_CutError) (.ref a.c_CutError) = some true
  su_CutError_InvalidName : PySem.W.subIn K (.ref a.c_CutError) (.ref a.c_InvalidName) = some false
  su_CutError_InvalidState : PySem.W.subIn K (.ref a.c_CutError) (.ref a.c_InvalidState) = some false
  su_CutError_UnknownCall : PySem.W.subIn K (.ref a.c_CutError) (.ref a.c_UnknownCall) = some false
  er_InvalidName : ErrC K a.c_InvalidName a.f_CutError___init__
  xf_InvalidName : XfC K a.c_InvalidName
  xc_InvalidName : ExcC K a.c_InvalidName
  su_InvalidName_CutError : PySem.W.subIn K (.ref a.c_InvalidName) (.ref a.c_CutError) = some true
  su_InvalidName_InvalidName : PySem.W.subIn K (.ref a.c_InvalidName) (.ref a.c_InvalidName) = some true
  su_InvalidName_InvalidState : PySem.W.subIn K (.ref a.c_InvalidName) (.ref a.c_InvalidState) = some false
  su_InvalidName_UnknownCall : PySem.W.subIn K (.ref a.c_InvalidName) (.ref a.c_UnknownCall) = some false
  er_InvalidState : ErrC K a.c_InvalidState a.f_CutError___init__
  xf_InvalidState : XfC K a.c_InvalidState
  xc_InvalidState : ExcC K a.c_InvalidState
  su_InvalidState_CutError : PySem.W.subIn K (.ref a.c_InvalidState) (.ref a.c_CutError) = some true
  su_InvalidState_InvalidName : PySem.W.subIn K (.ref a.c_InvalidState) (.ref a.c_InvalidName) = some false
  su_InvalidState_InvalidState : PySem.W.subIn K (.ref a.c_InvalidState) (.ref a.c_InvalidState) = some true
  su_InvalidState_UnknownCall : PySem.W.subIn K (.ref a.c_InvalidState) (.ref a.c_UnknownCall) = some false
  er_UnknownCall : ErrC K a.c_UnknownCall a.f_CutError___init__
  xf_UnknownCall : XfC K a.c_UnknownCall
  xc_UnknownCall : ExcC K a.c_UnknownCall
  su_UnknownCall_CutError : PySem.W.subIn K (.ref a.c_UnknownCall) (.ref a.c_CutError) = some true
  su_UnknownCall_InvalidName : PySem.W.subIn K (.ref a.c_UnknownCall) (.ref a.c_InvalidName) = some false
  su_UnknownCall_InvalidState : PySem.W.subIn K (.ref a.c_UnknownCall) (.ref a.c_InvalidState) = some false
  su_UnknownCall_UnknownCall : PySem.W.subIn K (.ref a.c_UnknownCall) (.ref a.c_UnknownCall) = some true
  h_CutError___init__ : Has K "__init__" "CutError.__init__" s_CutError___init__ a.f_CutError___init__ ["self", "value"]
  h_is_state : Has K "is_state" "is_state" s_is_state a.f_is_state ["number", "many"]
  g_is_state : mg "is_state" = some (.ref a.f_is_state)
  k_is_state : PySem.W.keepIn K (.ref a.f_is_state) = true
  h_Service_check : Has K "check" "Service.check" s_Service_check a.f_Service_check ["self", "row", "state"]
  m_Service_check : Meth K a.c_Service "check" a.f_Service_check
  h_Service_run : Has K "run" "Service.run" s_Service_run a.f_Service_run ["self", "row", "state"]
  m_Service_run : Meth K a.c_Service "run" a.f_Service_run
  h__law_ran : Has K "_law_ran" "_law_ran" s__law_ran a.f__law_ran ["names_here", "grid", "row_here", "at"]
  g__law_ran : mg "_law_ran" = some (.ref a.f__law_ran)
  k__law_ran : PySem.W.keepIn K (.ref a.f__law_ran) = true
  h__law_toss : Has K "_law_toss" "_law_toss" s__law_toss a.f__law_toss ["kit", "many"]
  g__law_toss : mg "_law_toss" = some (.ref a.f__law_toss)
  k__law_toss : PySem.W.keepIn K (.ref a.f__law_toss) = true
  h_Service___getitem__ : Has K "__getitem__" "Service.__getitem__" s_Service___getitem__ a.f_Service___getitem__ ["self", "at"]
  gi_Service : PySem.W.findIn K (.ref a.c_Service) "__getitem__" = some (some (.ref a.f_Service___getitem__)) ∧ PySem.W.isFn K (.ref a.f_Service___getitem__) = true ∧ PySem.W.fnIn K a.f_Service___getitem__ = true
  h_Service___len__ : Has K "__len__" "Service.__len__" s_Service___len__ a.f_Service___len__ ["self"]
  len_Service : PySem.W.findIn K (.ref a.c_Service) "__len__" = some (some (.ref a.f_Service___len__)) ∧ PySem.W.isFn K (.ref a.f_Service___len__) = true
  h_Service_table : Has K "table" "Service.table" s_Service_table a.f_Service_table ["self"]
  p_Service_table : ∃ q, PropOf K a.c_Service "table" q a.f_Service_table
  h_Service_calls : Has K "calls" "Service.calls" s_Service_calls a.f_Service_calls ["self"]
  p_Service_calls : ∃ q, PropOf K a.c_Service "calls" q a.f_Service_calls
  h__law_told_right : Has K "_law_told_right" "_law_told_right" s__law_told_right a.f__law_told_right ["made", "names_here", "least"]
  g__law_told_right : mg "_law_told_right" = some (.ref a.f__law_told_right)
  k__law_told_right : PySem.W.keepIn K (.ref a.f__law_told_right) = true
  h__law_walked : Has K "_law_walked" "_law_walked" s__law_walked a.f__law_walked ["grid"]
  g__law_walked : mg "_law_walked" = some (.ref a.f__law_walked)
  k__law_walked : PySem.W.keepIn K (.ref a.f__law_walked) = true
  h_reached : Has K "reached" "reached" s_reached a.f_reached ["table"]
  g_reached : mg "reached" = some (.ref a.f_reached)
  k_reached : PySem.W.keepIn K (.ref a.f_reached) = true
  h_check_table : Has K "check_table" "check_table" s_check_table a.f_check_table ["table", "width"]
  g_check_table : mg "check_table" = some (.ref a.f_check_table)
  k_check_table : PySem.W.keepIn K (.ref a.f_check_table) = true
  h_is_name : Has K "is_name" "is_name" s_is_name a.f_is_name ["word"]
  g_is_name : mg "is_name" = some (.ref a.f_is_name)
  k_is_name : PySem.W.keepIn K (.ref a.f_is_name) = true
  h_check_name : Has K "check_name" "check_name" s_check_name a.f_check_name ["word"]
  g_check_name : mg "check_name" = some (.ref a.f_check_name)
  k_check_name : PySem.W.keepIn K (.ref a.f_check_name) = true
  h_check_names : Has K "check_names" "check_names" s_check_names a.f_check_names ["names"]
  g_check_names : mg "check_names" = some (.ref a.f_check_names)
  k_check_names : PySem.W.keepIn K (.ref a.f_check_names) = true
  h_Service___init__ : Has K "__init__" "Service.__init__" s_Service___init__ a.f_Service___init__ ["self", "names", "table"]
  mk_Service : Mk K a.c_Service a.f_Service___init__
  h__law_turned : Has K "_law_turned" "_law_turned" s__law_turned a.f__law_turned ["kit", "grid"]
  g__law_turned : mg "_law_turned" = some (.ref a.f__law_turned)
  k__law_turned : PySem.W.keepIn K (.ref a.f__law_turned) = true
  h__law_answer : Has K "_law_answer" "_law_answer" s__law_answer a.f__law_answer ["kit"]
  g__law_answer : mg "_law_answer" = some (.ref a.f__law_answer)
  k__law_answer : PySem.W.keepIn K (.ref a.f__law_answer) = true
  h__law_column : Has K "_law_column" "_law_column" s__law_column a.f__law_column ["kit", "many"]
  g__law_column : mg "_law_column" = some (.ref a.f__law_column)
  k__law_column : PySem.W.keepIn K (.ref a.f__law_column) = true
  h__law_grid : Has K "_law_grid" "_law_grid" s__law_grid a.f__law_grid ["kit", "many", "count"]
  g__law_grid : mg "_law_grid" = some (.ref a.f__law_grid)
  k__law_grid : PySem.W.keepIn K (.ref a.f__law_grid) = true
  h__law_tags : Has K "_law_tags" "_law_tags" s__law_tags a.f__law_tags ["kit", "many"]
  g__law_tags : mg "_law_tags" = some (.ref a.f__law_tags)
  k__law_tags : PySem.W.keepIn K (.ref a.f__law_tags) = true
  h__law_fits : Has K "_law_fits" "_law_fits" s__law_fits a.f__law_fits ["kit"]
  g__law_fits : mg "_law_fits" = some (.ref a.f__law_fits)
  k__law_fits : PySem.W.keepIn K (.ref a.f__law_fits) = true
  h__law_kit : Has K "_law_kit" "_law_kit" s__law_kit a.f__law_kit ["script", "place"]
  g__law_kit : mg "_law_kit" = some (.ref a.f__law_kit)
  k__law_kit : PySem.W.keepIn K (.ref a.f__law_kit) = true
  h_law : Has K "law" "law" s_law a.f_law ["script"]
  g_law : mg "law" = some (.ref a.f_law)
  k_law : PySem.W.keepIn K (.ref a.f_law) = true
  kb_Service___init___1_table_names : KBS K a.f_Service___init__ ["self", "names", "table"] 1 ["table", "names"] [0, 2, 1] []
  kb_Service_check_3 : KBS K a.f_Service_check ["self", "row", "state"] 3 [] [0, 1, 2] []
  b_law : ∀ fd, FdAt K a.f_law fd → ∀ (s : Shared) (v : Value), BindsTo s fd ⟨[v], []⟩ [("script", v)]
end DL

set_option Elab.async false
set_option linter.all false
set_option maxRecDepth 100000
set_option maxHeartbeats 4000000
set_option autoImplicit false
namespace DL
open PySem PySem.Spec PyProof.Rows L2
local macro_rules | `(tactic| walk_at "m") => `(tactic| first
  | with_reducible exact MAt.last | with_reducible exact MUp.last
  | exact MAt.zero | exact MUp.zero | exact MAt.last | exact MUp.last
  | (apply MAt.cons; walk_at "m") | (apply MUp.cons; walk_at "m")
  | (apply MAt.app; walk_at "m") | (apply MUp.app; walk_at "m")
  | assumption)
local macro_rules | `(tactic| walk_at "s1") => `(tactic| with_reducible first
  | refine sw_seq ?_ | refine sw_next ?_ | refine sw_ret ?_ | refine sw_retN ?_ | refine sw_asg ?_ | refine sw_asgG ?_ | refine sw_drop ?_ | refine sw_break ?_ | refine sw_cont ?_ | refine sw_par ?_ | refine sw_par3 ?_
  | refine tw_test ?_ | refine tw_B ?_ | refine tw_and ?_ | refine tw_or ?_ | refine tw_not ?_ | refine tw_yes ?_
  | refine ew_op ?_ | refine ew_un ?_ | refine ew_int ?_ | refine ew_non ?_ | refine ew_bl ?_ | refine ew_str ?_ | refine ew_ty ?_ | refine ew_ref ?_ | refine ew_cb ?_ | refine ew_if ?_ | refine ew_andV ?_ | refine ew_orV ?_ | refine ew_notV ?_ | refine ew_chain ?_ | refine ew_sl ?_ | refine pw_no ?_ | refine pw_part ?_
  | refine ew_call0 ?_ | refine ew_kw0 ?_
  | refine aw_nil ?_ | refine aw_cons ?_ | refine ew_bm ?_ | refine ew_bm0 ?_ | refine gs_L ?_
  | refine gs_nil ?_ | refine gs_cons ?_ | refine gw_name ?_
  | refine ow_addI ?_ | refine ow_odd ?_ | refine ow_i0 ?_ | refine ow_b0 ?_ | refine oq_eqI ?_ | refine oq_neI ?_ | refine oq_eqS ?_ | refine oq_neS ?_ | refine ow_isN ?_ | refine ow_notN ?_ | refine uw_neg ?_ | refine cw_int ?_ | refine cw_intB ?_ | refine cw_abs ?_ | refine cw_mx2 ?_ | refine cw_mn2 ?_ | refine cw_lenL ?_ | refine cw_lenR ?_ | refine cw_listL ?_ | refine cw_listT ?_ | refine lw_L ?_ | refine ew_revL ?_)
local macro_rules | `(tactic| walk_at "s2") => `(tactic| first
  | ((with_reducible refine' ew_var ?hv ?_); (case hv => exact rfl))
  | ((with_reducible refine' oi_M ?hm ?hi ?_); (case hm => walk_at "m"); (case hi => exact rfl))
  | ((with_reducible refine' ow_ixT ?hi ?_); (case hi => exact rfl))
  | ((with_reducible refine' cl_M ?hm ?_); (case hm => walk_at "m"))
  | ((with_reducible refine' ci_M ?hm ?_); (case hm => walk_at "m"))
  | ((with_reducible refine' ma_app ?hm ?ll ?_); (case hm => walk_at "m"); (case ll => walk_at "l"))
  | ((with_reducible refine' And.intro (ty_A ?hm) ?_); (case hm => walk_at "m"))
  | (with_reducible refine' Exists.intro _ (And.intro ?he ?_); (case he => exact rfl))
  | (with_reducible refine' Exists.intro _ (Exists.intro _ (And.intro ?he ?_)); (case he => exact rfl))
  | (with_reducible refine' Exists.intro _ (Exists.intro _ (Exists.intro _ (And.intro ?he ?_))); (case he => exact rfl))
  | ((with_reducible refine' Exists.intro _ (Exists.intro _ (Exists.intro _ (Exists.intro _ (Exists.intro _ (And.intro ?e1 (And.intro ?e2 (And.intro ?hm (And.intro ?hi ?_))))))))); (case e1 => exact rfl); (case e2 => exact rfl); (case hm => walk_at "m"); (case hi => exact rfl)))
local macro_rules | `(tactic| walk_at "l") => `(tactic| first | assumption | exact lt_sz (by omega) | exact lt_sz (by simp only [List.length_map, List.length_append, List.length_cons, List.length_nil, List.length_take, List.length_drop, List.length_range]; omega))
local macro_rules | `(tactic| walk_at "s") => `(tactic| repeat (first | walk_at "s1" | walk_at "s2"))
local macro_rules | `(tactic| walk_at "sx") => `(tactic| with_reducible first
  | refine swx_of ?_ | refine swx_seq ?_ | refine swx_drop ?_ | refine swx_asg ?_ | refine swx_ret ?_ | refine ewx_fun ?_ | refine ewx_meth ?_ | refine ewx_make ?_ | refine ewx_sub ?_)
local macro_rules | `(tactic| walk_at "s") => `(tactic| repeat (first | walk_at "s1" | walk_at "s2" | walk_at "sx"))
local macro_rules | `(tactic| walk_at "g1") => `(tactic| with_reducible first
  | refine ew_tup2 ?_ | refine ew_tup3 ?_ | refine ew_tup4 ?_ | refine ew_fldI ?_ | refine sw_fldA ?_ | refine ew_dget1 ?_ | refine ew_dget2 ?_ | refine ow_isN ?_)
local macro_rules | `(tactic| walk_at "g2") => `(tactic| first
  | ((with_reducible refine' gw_tup ?e ?_); (case e => exact rfl))
  | ((with_reducible refine' oi_L ?e ?_); (case e => exact rfl))
  | ((refine' Exists.intro _ (And.intro ?cl (And.intro ?na (And.intro ?e ?_)))); (case cl => assumption); (case na => assumption); (case e => exact rfl))
  | ((refine' Exists.intro _ (Exists.intro _ (Exists.intro _ (Exists.intro _ (And.intro ?e (And.intro ?hm (And.intro ?cl (And.intro ?na (And.intro ?l ?_))))))))); (case e => exact rfl); (case hm => walk_at "m"); (case cl => assumption); (case na => assumption); (case l => exact Nat.le_of_ble_eq_true rfl)))
local macro_rules | `(tactic| walk_at "g") => `(tactic| repeat (first | walk_at "s1" | walk_at "s2" | walk_at "sx" | walk_at "g1" | walk_at "g2"))

section
variable {P : Program} {w : World} {K : PySem.W.Frag} {mg : Str → Option Value} {base : Heap} {a : Ads}
theorem bits_lt {i : Int} {b : Nat} (h0 : 0 ≤ i) (h : i < 2 ^ b) : Builtin.Int.intBits i ≤ b := by
  have e : ((2 ^ b : Nat) : Int) = (2 : Int) ^ b := by first | exact Int.natCast_pow 2 b | simp
  rw [← e] at h
  exact intBits_le_iff.mpr (by omega)
theorem pow3_ok {i : Int} (b : Nat) (hb : 3 * b ≤ 2 ^ 27) (h0 : 0 ≤ i) (h : i < 2 ^ b) : CPowW i 3 := ⟨by decide, by have := bits_lt h0 h; omega⟩
def Kit (n : Nat) (c : Cell) : Prop := ∃ a b e : Int, c = .lst [.int a, .int b, .int e] ∧ 0 ≤ a ∧ 0 ≤ b ∧ b < 2 ^ 63 ∧ 0 ≤ e ∧ e ≤ n
theorem Kit.up {n n' : Nat} {c : Cell} (h : Kit n c) (l : n ≤ n') : Kit n' c := let ⟨a, b, e, h1, h2, h3, h4, h5, h6⟩ := h; ⟨a, b, e, h1, h2, h3, h4, h5, by omega⟩
def F_toss : FS := fun ds m Q => ∃ (p : Addr) (c : Cell) (rest : Mem) (n : Nat) (span : Int), ds = [.adr p, .int span] ∧ m = (p, c) :: rest ∧ Kit n c ∧ n < 2 ^ 40 ∧ 0 < span ∧ span < 2 ^ 200 ∧
  ∀ (r : Int) (c' : Cell), 0 ≤ r → r < span → Kit (n + 1) c' → Q (.int r) ((p, c') :: rest)
theorem ok__law_toss (T : Txt K mg a) : Def P w K mg base 2 a.f__law_toss ["kit", "many"] (FSn 2 (F_toss)) := by
  have nd := sc__law_toss.nd
  refine defOk T.h__law_toss sc__law_toss (fun _ _ _ h => h.1) (fun cdv A outer s H E hr => by exact (pss_cons (ps_if (pt_cmpR op_gt (pe_ix (kx_ix K rfl hr.units) (pv 0) pe_int (fun _ _ => rfl)) pe_int (nomark _)) (pss_cons (ps_set (i := 2) nd rfl (Or.inl rfl) (pe_op op_mod (pe_callTy cr_int1 (by rfl) T.n_int (by decide +kernel) (pa_cons (pe_ix (kx_ix K rfl hr.units) (pv 0) pe_int (fun _ _ => rfl)) pa_nil)) (pv 1)))
    (pss_cons (ps_asg (pe_op op_fdivW (pe_ix (kx_ix K rfl hr.units) (pv 0) pe_int (fun _ _ => rfl)) (pv 1)) (pg_sub (pv 0) pe_int set_list))
    (pss_one (ps_ret (pv 2))))) pss_nil)
    (pss_cons (ps_asg (pe_op op_addU (pe_ix (kx_ix K rfl hr.units) (pv 0) pe_int (fun _ _ => rfl)) pe_int) (pg_sub (pv 0) pe_int set_list))
    (pss_cons (ps_set (i := 3) nd rfl (Or.inl rfl) (pe_op op_addU (pe_op op_powW (pe_op op_addU (pe_ix (kx_ix K rfl hr.units) (pv 0) pe_int (fun _ _ => rfl)) (pe_op op_mulU pe_int (pe_ix (kx_ix K rfl hr.units) (pv 0) pe_int (fun _ _ => rfl)))) pe_int) (pe_op op_mulU pe_int (pe_ix (kx_ix K rfl hr.units) (pv 0) pe_int (fun _ _ => rfl)))))
    (pss_cons (ps_set (i := 3) nd rfl (Or.inl rfl) (pe_op op_addU (pe_op op_mod (pe_callTy cr_int1 (by rfl) T.n_int (by decide +kernel) (pa_cons (pv 3) pa_nil)) pe_int) (pe_op op_mulU pe_int (pe_ix (kx_ix K rfl hr.units) (pv 0) pe_int (fun _ _ => rfl)))))
    (pss_cons (ps_set (i := 3) nd rfl (Or.inl rfl) (pe_op op_mod (pe_callTy cr_int1 (by rfl) T.n_int (by decide +kernel) (pa_cons (pe_op op_powW (pv 3) pe_int) pa_nil)) pe_int))
    (pss_one (ps_ret (pe_op op_mod (pe_callTy cr_int1 (by rfl) T.n_int (by decide +kernel) (pa_cons (pe_op op_fdivW (pv 3) pe_int) pa_nil)) (pv 1)))))))))) (fun ds m Q h => ?_)
  replace h := h.2
  clear nd
  obtain ⟨p, c, rest, n, span, rfl, rfl, ⟨a, b, e, rfl, a0, b0, b1, e0, e1⟩, hn, s0, s1, q⟩ := h
  have dr : ∀ x : Int, 0 ≤ x % span ∧ x % span < span := fun x => ⟨Int.emod_nonneg _ (by omega), Int.emod_lt_of_pos _ s0⟩
  have hd : CDivW a span := wide_div (b := 200) s0 (by omega) (by decide) (by decide)
  walk_at "s"
  refine sw_if ?_
  walk_at "s"
  refine iteD (fun hp => ?_) (fun hp => ?_)
  · walk_at "s"
    refine ow_ic s0 ?_
    walk_at "s"
    refine ow_ic hd ?_
    walk_at "s"
    exact q _ _ (dr _).1 (dr _).2 ⟨_, b, e, rfl, Int.ediv_nonneg a0 (by omega), b0, b1, e0, by omega⟩
  · walk_at "s"
    refine ow_mul2 (by omega) ?_
    walk_at "s"
    refine ow_ic (pow3_ok 110 (by decide) (by omega) (by omega)) ?_
    walk_at "s"
    refine ow_mul2 (by omega) ?_
    walk_at "s"
    refine ow_ic (by decide) ?_
    walk_at "s"
    refine ow_mul2 (by omega) ?_
    walk_at "s"
    generalize hX : ((b + 6700417 * (e + 1)) ^ (3 : Int).toNat + 97 * (e + 1)) = X
    have t0 : 0 ≤ X % 2305843009213693951 := Int.emod_nonneg _ (by decide)
    have t1 : X % 2305843009213693951 < 2305843009213693951 := Int.emod_lt_of_pos _ (by decide)
    refine ow_ic (pow3_ok 110 (by decide) (by omega) (by omega)) ?_
    walk_at "s"
    refine ow_ic (by decide) ?_
    walk_at "s"
    refine ow_ic (wide_div (b := 18) (by decide) (by decide) (by decide) (by decide)) ?_
    walk_at "s"
    refine ow_ic s0 ?_
    exact q _ _ (dr _).1 (dr _).2 ⟨a, b, e + 1, rfl, a0, b0, b1, by omega, by omega⟩
theorem use_toss {p : Addr} {c : Cell} {rest : Mem} {n : Nat} {span : Int} {Q : D → Mem → Prop} (hk : Kit n c) (hn : n < 2 ^ 40) (s0 : 0 < span) (s1 : span < 2 ^ 200) (q : ∀ (r : Nat) (c' : Cell), (r : Int) < span → Kit (n + 1) c' → Q (.int (r : Nat)) ((p, c') :: rest)) : FSn 2 F_toss [.adr p, .int span] ((p, c) :: rest) Q :=
  ⟨rfl, p, c, rest, n, span, rfl, rfl, hk, hn, s0, s1, fun r c' r0 r1 hk' => by
    have := q r.toNat c' (by omega) hk'
    rwa [show ((r.toNat : Nat) : Int) = r by omega] at this⟩
def F_kit : FS := fun ds m Q => ∃ (ns : List Int) (pl : Int), ds = [.scr ns, .int pl] ∧ 0 ≤ pl ∧ pl < 2 ^ 20 ∧ ∀ (p : Addr) (c : Cell), Kit 0 c → Q (.adr p) (m ++ [(p, c)])
theorem ok__law_kit (T : Txt K mg a) : Def P w K mg base 2 a.f__law_kit ["script", "place"] (FSn 2 (F_kit)) := by
  have nd := sc__law_kit.nd
  refine defOk T.h__law_kit sc__law_kit (fun _ _ _ h => h.1) (fun cdv A outer s H E hr => by exact (pss_cons (ps_set (i := 2) nd rfl (Or.inl rfl) pe_int)
    (pss_cons (ps_if (pt_cmpR op_lt (pv 1) (pe_callB (kx_len K rfl) (by rfl) T.n_len (by decide +kernel) (pa_cons (pv 0) pa_nil)) (nomark _)) (pss_one (ps_set (i := 2) nd rfl (Or.inl rfl) (pe_ix (kx_ix K rfl hr.units) (pv 0) (pv 1) (fun _ _ => rfl)))) pss_nil)
    (pss_cons (ps_set (i := 3) nd rfl (Or.inl rfl) (pe_op op_mod (pe_callTy cr_int1 (by rfl) T.n_int (by decide +kernel) (pa_cons (pe_op op_addU (pe_op op_mulU (pe_callB cr_abs (by rfl) T.n_abs (by decide +kernel) (pa_cons (pv 2) pa_nil)) pe_int) (pe_callTy cr_int1 (by rfl) T.n_int (by decide +kernel) (pa_cons (pe_cmpR op_lt (pv 2) pe_int (nomark _)) pa_nil))) pa_nil)) pe_int))
    (pss_one (ps_ret (pe_lst (pa_cons (pe_op op_mulU (pv 2) (pe_callTy cr_int1 (by rfl) T.n_int (by decide +kernel) (pa_cons (pe_cmpR op_ge (pv 2) (pe_op op_powW pe_int pe_int) (nomark _)) pa_nil))) (pa_cons (pe_op op_addU (pv 3) (pe_op op_mulU pe_int (pv 1))) (pa_cons pe_int pa_nil)))))))))) (fun ds m Q h => ?_)
  replace h := h.2
  clear nd
  obtain ⟨ns, pl, rfl, p0, p1, q⟩ := h
  walk_at "s"
  refine sw_ifJ (fun δ' m' => m' = m ∧ ∃ sd : Int, δ' = [some (.scr ns), some (.int pl), some (.int sd), none]) ?_ ?_
  · walk_at "s"
    refine iteD (fun hp => ?_) (fun hp => ?_)
    · walk_at "s"
      have hl : pl.toNat < ns.length := by omega
      refine ow_ixR (n := ns[pl.toNat]) (atI_lt p0 (List.getElem?_eq_getElem hl)) ?_
      walk_at "s"
      exact ⟨rfl, _, rfl⟩
    · walk_at "s"
      exact ⟨rfl, _, rfl⟩
  · rintro δ' m' ⟨rfl, sd, rfl⟩
    walk_at "s"
    refine ow_mul1 (by decide) ?_
    walk_at "s"
    refine ow_ic (by decide) ?_
    walk_at "s"
    generalize hX : ((if sd < 0 then -sd else sd) * 2 + if decide (sd < 0) = true then 1 else 0) = X
    have t0 : 0 ≤ X % 2305843009213693951 := Int.emod_nonneg _ (by decide)
    have t1 : X % 2305843009213693951 < 2305843009213693951 := Int.emod_lt_of_pos _ (by decide)
    refine ew_lstM ?_
    walk_at "s"
    refine ow_ic ⟨by decide, by decide⟩ ?_
    walk_at "s"
    refine ow_mul1 (by split <;> decide) ?_
    walk_at "s"
    refine ow_mul2 (by decide) ?_
    walk_at "s"
    refine ⟨Nat.le_of_ble_eq_true rfl, fun p => q p _ ⟨_, _, 0, rfl, ?_, by omega, by omega, Int.le_refl _, by decide⟩⟩
    by_cases h : (10 : Int) ^ (18 : Int).toNat ≤ sd
    · rw [decide_eq_true h, if_pos rfl, Int.mul_one]
      exact Int.le_trans (by decide) h
    · rw [decide_eq_false h, if_neg Bool.false_ne_true, Int.mul_zero]
      exact Int.le_refl _
theorem tk {p : Addr} {c : Cell} {rest : Mem} {n : Nat} {span : Int} {Q : D → Mem → Prop} (hk : Kit n c) (q : ∀ (r : Nat) (c' : Cell), (r : Int) < span → Kit (n + 1) c' → Q (.int (r : Nat)) ((p, c') :: rest))
    (hn : n < 2 ^ 40 := by omega) (s0 : 0 < span := by first | omega | decide) (s1 : span < 2 ^ 200 := by first | omega | decide) : FSn 2 F_toss [.adr p, .int span] ((p, c) :: rest) Q := use_toss hk hn s0 s1 q

end
end DL

set_option Elab.async false
set_option linter.all false
set_option maxRecDepth 100000
set_option maxHeartbeats 4000000
set_option autoImplicit false
namespace DL
open PySem PySem.Spec PyProof.Rows L2
local macro_rules | `(tactic| walk_at "m") => `(tactic| first
  | with_reducible exact MAt.last | with_reducible exact MUp.last
  | exact MAt.zero | exact MUp.zero | exact MAt.last | exact MUp.last
  | (apply MAt.cons; walk_at "m") | (apply MUp.cons; walk_at "m")
  | (apply MAt.app; walk_at "m") | (apply MUp.app; walk_at "m")
  | assumption)
local macro_rules | `(tactic| walk_at "s1") => `(tactic| with_reducible first
  | refine sw_seq ?_ | refine sw_next ?_ | refine sw_ret ?_ | refine sw_retN ?_ | refine sw_asg ?_ | refine sw_asgG ?_ | refine sw_drop ?_ | refine sw_break ?_ | refine sw_cont ?_ | refine sw_par ?_ | refine sw_par3 ?_
  | refine tw_test ?_ | refine tw_B ?_ | refine tw_and ?_ | refine tw_or ?_ | refine tw_not ?_ | refine tw_yes ?_
  | refine ew_op ?_ | refine ew_un ?_ | refine ew_int ?_ | refine ew_non ?_ | refine ew_bl ?_ | refine ew_str ?_ | refine ew_ty ?_ | refine ew_ref ?_ | refine ew_cb ?_ | refine ew_if ?_ | refine ew_andV ?_ | refine ew_orV ?_ | refine ew_notV ?_ | refine ew_chain ?_ | refine ew_sl ?_ | refine pw_no ?_ | refine pw_part ?_
  | refine ew_call0 ?_ | refine ew_kw0 ?_
  | refine aw_nil ?_ | refine aw_cons ?_ | refine ew_bm ?_ | refine ew_bm0 ?_ | refine gs_L ?_
  | refine gs_nil ?_ | refine gs_cons ?_ | refine gw_name ?_
  | refine ow_addI ?_ | refine ow_odd ?_ | refine ow_i0 ?_ | refine ow_b0 ?_ | refine oq_eqI ?_ | refine oq_neI ?_ | refine oq_eqS ?_ | refine oq_neS ?_ | refine ow_isN ?_ | refine ow_notN ?_ | refine uw_neg ?_ | refine cw_int ?_ | refine cw_intB ?_ | refine cw_abs ?_ | refine cw_mx2 ?_ | refine cw_mn2 ?_ | refine cw_lenL ?_ | refine cw_lenR ?_ | refine cw_listL ?_ | refine cw_listT ?_ | refine lw_L ?_ | refine ew_revL ?_)
local macro_rules | `(tactic| walk_at "s2") => `(tactic| first
  | ((with_reducible refine' ew_var ?hv ?_); (case hv => exact rfl))
  | ((with_reducible refine' oi_M ?hm ?hi ?_); (case hm => walk_at "m"); (case hi => exact rfl))
  | ((with_reducible refine' ow_ixT ?hi ?_); (case hi => exact rfl))
  | ((with_reducible refine' cl_M ?hm ?_); (case hm => walk_at "m"))
  | ((with_reducible refine' ci_M ?hm ?_); (case hm => walk_at "m"))
  | ((with_reducible refine' ma_app ?hm ?ll ?_); (case hm => walk_at "m"); (case ll => walk_at "l"))
  | ((with_reducible refine' And.intro (ty_A ?hm) ?_); (case hm => walk_at "m"))
  | (with_reducible refine' Exists.intro _ (And.intro ?he ?_); (case he => exact rfl))
  | (with_reducible refine' Exists.intro _ (Exists.intro _ (And.intro ?he ?_)); (case he => exact rfl))
  | (with_reducible refine' Exists.intro _ (Exists.intro _ (Exists.intro _ (And.intro ?he ?_))); (case he => exact rfl))
  | ((with_reducible refine' Exists.intro _ (Exists.intro _ (Exists.intro _ (Exists.intro _ (Exists.intro _ (And.intro ?e1 (And.intro ?e2 (And.intro ?hm (And.intro ?hi ?_))))))))); (case e1 => exact rfl); (case e2 => exact rfl); (case hm => walk_at "m"); (case hi => exact rfl)))
local macro_rules | `(tactic| walk_at "l") => `(tactic| first | assumption | exact lt_sz (by omega) | exact lt_sz (by simp only [List.length_map, List.length_append, List.length_cons, List.length_nil, List.length_take, List.length_drop, List.length_range]; omega))
local macro_rules | `(tactic| walk_at "s") => `(tactic| repeat (first | walk_at "s1" | walk_at "s2"))
local macro_rules | `(tactic| walk_at "sx") => `(tactic| with_reducible first
  | refine swx_of ?_ | refine swx_seq ?_ | refine swx_drop ?_ | refine swx_asg ?_ | refine swx_ret ?_ | refine ewx_fun ?_ | refine ewx_meth ?_ | refine ewx_make ?_ | refine ewx_sub ?_)
local macro_rules | `(tactic| walk_at "s") => `(tactic| repeat (first | walk_at "s1" | walk_at "s2" | walk_at "sx"))
local macro_rules | `(tactic| walk_at "g1") => `(tactic| with_reducible first
  | refine ew_tup2 ?_ | refine ew_tup3 ?_ | refine ew_tup4 ?_ | refine ew_fldI ?_ | refine sw_fldA ?_ | refine ew_dget1 ?_ | refine ew_dget2 ?_ | refine ow_isN ?_)
local macro_rules | `(tactic| walk_at "g2") => `(tactic| first
  | ((with_reducible refine' gw_tup ?e ?_); (case e => exact rfl))
  | ((with_reducible refine' oi_L ?e ?_); (case e => exact rfl))
  | ((refine' Exists.intro _ (And.intro ?cl (And.intro ?na (And.intro ?e ?_)))); (case cl => assumption); (case na => assumption); (case e => exact rfl))
  | ((refine' Exists.intro _ (Exists.intro _ (Exists.intro _ (Exists.intro _ (And.intro ?e (And.intro ?hm (And.intro ?cl (And.intro ?na (And.intro ?l ?_))))))))); (case e => exact rfl); (case hm => walk_at "m"); (case cl => assumption); (case na => assumption); (case l => exact Nat.le_of_ble_eq_true rfl)))
local macro_rules | `(tactic| walk_at "g") => `(tactic| repeat (first | walk_at "s1" | walk_at "s2" | walk_at "sx" | walk_at "g1" | walk_at "g2"))

section
variable {P : Program} {w : World} {K : PySem.W.Frag} {mg : Str → Option Value} {base : Heap} {a : Ads}
def LET : Str := "abcdefghijklmnopqrstuvwxyz"
def nameB (x : Str) : Bool := (decide (1 ≤ x.length) && decide (x.length ≤ 8)) && x.cps.toList.all fun c => decide (c ∈ LET.cps.toList)
def F_isname : FS := fun ds m Q => ∃ x : Str, ds = [.str x] ∧ x.length ≤ sizeLine ∧ Q (.bl (nameB x)) m
theorem ok_is_name (T : Txt K mg a) : Def P w K mg base 2 a.f_is_name ["word"] (FSn 1 (F_isname)) := by
  have nd := sc_is_name.nd
  refine defOk T.h_is_name sc_is_name (fun _ _ _ h => h.1) (fun cdv A outer s H E hr => by exact (pss_cons (ps_if (pt_not (pt_val (pe_callB (kx_isi K rfl) (by rfl) T.n_isinstance (by decide +kernel) (pa_cons (pv 0) (pa_cons (pe_bltn (v := .ty "str") (by rfl) T.n_str (by decide +kernel) rfl) pa_nil))))) (pss_one (ps_ret pe_bl)) pss_nil)
    (pss_one (ps_ret (pe_and (pe_chain op_le op_le pe_int (pe_callB (kx_len K rfl) (by rfl) T.n_len (by decide +kernel) (pa_cons (pv 0) pa_nil)) (kx_con T.g_MOST_LETTERS rfl)) (pe_one (pe_callB (kx_all K rfl rfl) (by rfl) T.n_all (by decide +kernel) (pa_cons (pe_lc (own := [("letter", 1)]) (g := (gName 1)) (tt := tYes) rfl nd (pi_str (pv 0)) (blkOk_by (own := [("letter", 1)]) (N := N_is_name) (sc := defScope s_is_name) (by decide +kernel)) (fun _ _ _ _ _ => (pg_name (i := 1) nd rfl (by first | exact Or.inl rfl | exact Or.inr rfl))) (fun _ _ _ _ _ => pts_nil) (fun _ _ _ _ _ => (pe_cmpR (kx_in K rfl P w rfl rfl hr.units) (pv 1) (kx_con T.g_LETTERS rfl) (by with_unfolding_all rfl)))) pa_nil)))))))) (fun ds m Q h => ?_)
  replace h := h.2
  clear nd
  obtain ⟨x, rfl, hx, q⟩ := h
  walk_at "s"
  refine sw_if ?_
  walk_at "s"
  refine cw_isi (n := "str") (b := true) rfl rfl (fun _ h => nomatch h) ?_
  walk_at "s"
  rw [if_neg (by decide)]
  walk_at "s"
  have no : ∀ {b c : Bool}, nameB x = (b && c) → b = false → Q (.bl false) m := fun {b c} e hb => by
    rw [e, hb] at q
    exact q
  refine cw_lenS hx ?_
  walk_at "s"
  refine iteD (fun h1 => ?_) (fun h1 => ?_)
  · walk_at "s"
    refine iteD (fun h2 => ?_) (fun h2 => ?_)
    · walk_at "s"
      refine ew_lcF (tame_name (by decide)) (iw_str ?_)
      walk_at "s"
      refine ⟨Nat, x.cps.toList, fun c => .str ⟨#[c]⟩, fun c => .bl (decide (c ∈ LET.cps.toList)), rfl, ?_, ?_, ?_⟩
      · exact le_sz (by have e : x.length = x.cps.toList.length := by simp [Str.length]
                        omega)
      · intro c acc z hc
        walk_at "s"
        refine ⟨rfl, ?_⟩
        walk_at "s"
        refine in_sg ?_
        exact ⟨rfl, rfl⟩
      · walk_at "s"
        have e : (x.cps.toList.map fun c => D.bl (decide (c ∈ LET.cps.toList))) = (x.cps.toList.map fun c => decide (c ∈ LET.cps.toList)).map D.bl := by rw [List.map_map]; rfl
        rw [e]
        refine cw_all ?_
        have e2 : ((x.cps.toList.map fun c => decide (c ∈ LET.cps.toList)).all id) = nameB x := by
          unfold nameB
          rw [List.all_map, decide_eq_true (by omega : 1 ≤ x.length), decide_eq_true (by omega : x.length ≤ 8)]
          rfl
        rw [e2]
        exact q
    · refine no (b := decide (1 ≤ x.length) && decide (x.length ≤ 8)) rfl ?_
      rw [decide_eq_false (by omega : ¬ x.length ≤ 8), Bool.and_false]
  · walk_at "s"
    refine no (b := decide (1 ≤ x.length) && decide (x.length ≤ 8)) rfl ?_
    rw [decide_eq_false (by omega : ¬ 1 ≤ x.length), Bool.false_and]
theorem nameB_len {x : Str} (h : nameB x = true) : x.length ≤ 8 := by
  unfold nameB at h
  rw [Bool.and_eq_true, Bool.and_eq_true] at h
  exact of_decide_eq_true h.1.2
theorem use_isname {x : Str} {m : Mem} {Q : D → Mem → Prop} (h : x.length ≤ sizeLine) (q : Q (.bl (nameB x)) m) : FSn 1 F_isname [.str x] m Q := ⟨rfl, x, rfl, h, q⟩
def F_cname (iN : Addr) : FX := fun ds m Q R => ∃ x : Str, ds = [.str x] ∧ x.length ≤ sizeLine ∧ (nameB x = false → R iN (.str x) m) ∧ (nameB x = true → Q .non m)
theorem ok_CutError___init__ (T : Txt K mg a) : InitX P w K mg base 2 a.f_CutError___init__ := initX T.h_CutError___init__ sc_CutError___init__ (fun cdv A outer s H E => by exact pss_one (ps_ost (pv 0) (pv 1)))
theorem okx_check_name (T : Txt K mg a) : DefX P w K mg base 4 a.f_check_name ["word"] (FXn 1 (F_cname a.c_InvalidName)) := by
  have nd := sc_check_name.nd
  have C_is_name := ok_is_name (P := P) (w := w) (base := base) T
  have C_CutError___init__ := ok_CutError___init__ (P := P) (w := w) (base := base) T
  refine defOkX T.h_check_name sc_check_name (fun _ _ _ _ h => h.1) (fun W cdv A outer s H E hr tkW own => ⟨_, (pss_one (ps_if (pt_not (pt_val (kx_def K rfl C_is_name (hr.mono (by decide)) rfl T.g_is_name T.k_is_name (pa_cons (pv 0) pa_nil)))) (pss_one (kx_raise K rfl rfl tkW T.er_InvalidName C_CutError___init__ (hr.mono (by decide)) rfl T.g_InvalidName (pa_cons (pv 0) pa_nil))) pss_nil)), rfl⟩) (fun ds m Q R h => ?_)
  replace h := h.2
  clear nd
  have er := T.er_InvalidName
  obtain ⟨x, rfl, hx, r, q⟩ := h
  refine swx_if ?_
  walk_at "g"
  refine use_isname hx ?_
  walk_at "g"
  refine iteB (fun h => ?_) (fun h => ?_)
  · have h : nameB x = false := by simpa using h
    refine swx_raise er ?_
    walk_at "g"
    exact r h
  · have h : nameB x = true := by simpa using h
    walk_at "g"
    exact q h
theorem ok_check_name (T : Txt K mg a) : Def P w K mg base 4 a.f_check_name ["word"] (FX.quiet (FXn 1 (F_cname a.c_InvalidName))) := (okx_check_name (P := P) (w := w) (base := base) T).quiet

end
end DL

set_option Elab.async false
set_option linter.all false
set_option maxRecDepth 100000
set_option maxHeartbeats 4000000
set_option autoImplicit false
namespace DL
open PySem PySem.Spec PyProof.Rows L2
local macro_rules | `(tactic| walk_at "m") => `(tactic| first
  | with_reducible exact MAt.last | with_reducible exact MUp.last
  | exact MAt.zero | exact MUp.zero | exact MAt.last | exact MUp.last
  | (apply MAt.cons; walk_at "m") | (apply MUp.cons; walk_at "m")
  | (apply MAt.app; walk_at "m") | (apply MUp.app; walk_at "m")
  | assumption)
local macro_rules | `(tactic| walk_at "s1") => `(tactic| with_reducible first
  | refine sw_seq ?_ | refine sw_next ?_ | refine sw_ret ?_ | refine sw_retN ?_ | refine sw_asg ?_ | refine sw_asgG ?_ | refine sw_drop ?_ | refine sw_break ?_ | refine sw_cont ?_ | refine sw_par ?_ | refine sw_par3 ?_
  | refine tw_test ?_ | refine tw_B ?_ | refine tw_and ?_ | refine tw_or ?_ | refine tw_not ?_ | refine tw_yes ?_
  | refine ew_op ?_ | refine ew_un ?_ | refine ew_int ?_ | refine ew_non ?_ | refine ew_bl ?_ | refine ew_str ?_ | refine ew_ty ?_ | refine ew_ref ?_ | refine ew_cb ?_ | refine ew_if ?_ | refine ew_andV ?_ | refine ew_orV ?_ | refine ew_notV ?_ | refine ew_chain ?_ | refine ew_sl ?_ | refine pw_no ?_ | refine pw_part ?_
  | refine ew_call0 ?_ | refine ew_kw0 ?_
  | refine aw_nil ?_ | refine aw_cons ?_ | refine ew_bm ?_ | refine ew_bm0 ?_ | refine gs_L ?_
  | refine gs_nil ?_ | refine gs_cons ?_ | refine gw_name ?_
  | refine ow_addI ?_ | refine ow_odd ?_ | refine ow_i0 ?_ | refine ow_b0 ?_ | refine oq_eqI ?_ | refine oq_neI ?_ | refine oq_eqS ?_ | refine oq_neS ?_ | refine ow_isN ?_ | refine ow_notN ?_ | refine uw_neg ?_ | refine cw_int ?_ | refine cw_intB ?_ | refine cw_abs ?_ | refine cw_mx2 ?_ | refine cw_mn2 ?_ | refine cw_lenL ?_ | refine cw_lenR ?_ | refine cw_listL ?_ | refine cw_listT ?_ | refine lw_L ?_ | refine ew_revL ?_)
local macro_rules | `(tactic| walk_at "s2") => `(tactic| first
  | ((with_reducible refine' ew_var ?hv ?_); (case hv => exact rfl))
  | ((with_reducible refine' oi_M ?hm ?hi ?_); (case hm => walk_at "m"); (case hi => exact rfl))
  | ((with_reducible refine' ow_ixT ?hi ?_); (case hi => exact rfl))
  | ((with_reducible refine' cl_M ?hm ?_); (case hm => walk_at "m"))
  | ((with_reducible refine' ci_M ?hm ?_); (case hm => walk_at "m"))
  | ((with_reducible refine' ma_app ?hm ?ll ?_); (case hm => walk_at "m"); (case ll => walk_at "l"))
  | ((with_reducible refine' And.intro (ty_A ?hm) ?_); (case hm => walk_at "m"))
  | (with_reducible refine' Exists.intro _ (And.intro ?he ?_); (case he => exact rfl))
  | (with_reducible refine' Exists.intro _ (Exists.intro _ (And.intro ?he ?_)); (case he => exact rfl))
  | (with_reducible refine' Exists.intro _ (Exists.intro _ (Exists.intro _ (And.intro ?he ?_))); (case he => exact rfl))
  | ((with_reducible refine' Exists.intro _ (Exists.intro _ (Exists.intro _ (Exists.intro _ (Exists.intro _ (And.intro ?e1 (And.intro ?e2 (And.intro ?hm (And.intro ?hi ?_))))))))); (case e1 => exact rfl); (case e2 => exact rfl); (case hm => walk_at "m"); (case hi => exact rfl)))
local macro_rules | `(tactic| walk_at "l") => `(tactic| first | assumption | exact lt_sz (by omega) | exact lt_sz (by simp only [List.length_map, List.length_append, List.length_cons, List.length_nil, List.length_take, List.length_drop, List.length_range]; omega))
local macro_rules | `(tactic| walk_at "s") => `(tactic| repeat (first | walk_at "s1" | walk_at "s2"))
local macro_rules | `(tactic| walk_at "sx") => `(tactic| with_reducible first
  | refine swx_of ?_ | refine swx_seq ?_ | refine swx_drop ?_ | refine swx_asg ?_ | refine swx_ret ?_ | refine ewx_fun ?_ | refine ewx_meth ?_ | refine ewx_make ?_ | refine ewx_sub ?_)
local macro_rules | `(tactic| walk_at "s") => `(tactic| repeat (first | walk_at "s1" | walk_at "s2" | walk_at "sx"))
local macro_rules | `(tactic| walk_at "g1") => `(tactic| with_reducible first
  | refine ew_tup2 ?_ | refine ew_tup3 ?_ | refine ew_tup4 ?_ | refine ew_fldI ?_ | refine sw_fldA ?_ | refine ew_dget1 ?_ | refine ew_dget2 ?_ | refine ow_isN ?_)
local macro_rules | `(tactic| walk_at "g2") => `(tactic| first
  | ((with_reducible refine' gw_tup ?e ?_); (case e => exact rfl))
  | ((with_reducible refine' oi_L ?e ?_); (case e => exact rfl))
  | ((refine' Exists.intro _ (And.intro ?cl (And.intro ?na (And.intro ?e ?_)))); (case cl => assumption); (case na => assumption); (case e => exact rfl))
  | ((refine' Exists.intro _ (Exists.intro _ (Exists.intro _ (Exists.intro _ (And.intro ?e (And.intro ?hm (And.intro ?cl (And.intro ?na (And.intro ?l ?_))))))))); (case e => exact rfl); (case hm => walk_at "m"); (case cl => assumption); (case na => assumption); (case l => exact Nat.le_of_ble_eq_true rfl)))
local macro_rules | `(tactic| walk_at "g") => `(tactic| repeat (first | walk_at "s1" | walk_at "s2" | walk_at "sx" | walk_at "g1" | walk_at "g2"))

section
variable {P : Program} {w : World} {K : PySem.W.Frag} {mg : Str → Option Value} {base : Heap} {a : Ads}
/-- unlike names -/
structure Tags (k : Nat) (ws : List Str) : Prop where
  len : ws.length = k
  nd : ws.Nodup
  nm : ∀ x ∈ ws, nameB x = true
theorem LET_ok : ∀ c ∈ LET.cps.toList, c < 1114112 := by decide +kernel
theorem name_ok {x : Str} (h : nameB x = true) : PyData.strOk x = true := by
  unfold nameB at h
  rw [Bool.and_eq_true, List.all_eq_true] at h
  unfold PyData.strOk
  rw [Array.all_eq_true']
  intro c hc
  have := h.2 c (by simpa using hc)
  exact decide_eq_true (LET_ok c (of_decide_eq_true this))
theorem name_of {x : Str} {cs : List Nat} (e : x.cps.toList = cs) (h1 : 1 ≤ cs.length) (h8 : cs.length ≤ 8) (hc : ∀ c ∈ cs, c ∈ LET.cps.toList) : nameB x = true := by
  have l : x.length = cs.length := by rw [← e]; simp [Str.length]
  unfold nameB
  rw [l, decide_eq_true h1, decide_eq_true h8, e, Bool.and_self, Bool.true_and, List.all_eq_true]
  exact fun c h => decide_eq_true (hc c h)
theorem nd_mapOn {α β : Type} {f : α → β} {l : List α} (inj : ∀ a ∈ l, ∀ b ∈ l, f a = f b → a = b) (h : l.Nodup) : (l.map f).Nodup := by
  refine List.pairwise_map.mpr ?_
  refine List.Pairwise.imp_of_mem (fun ha hb ne e => ne (inj _ ha _ hb e)) h
theorem mulOk1 (c : Nat) {n : Int} (h1 : 1 ≤ n) (h8 : n ≤ 8) : PySem.MulOk ⟨#[c]⟩ n := by
  rcases (by omega : n = 1 ∨ n = 2 ∨ n = 3 ∨ n = 4 ∨ n = 5 ∨ n = 6 ∨ n = 7 ∨ n = 8) with rfl | rfl | rfl | rfl | rfl | rfl | rfl | rfl <;>
  exact ⟨rfl, fun _ _ => by show ¬ ((1 : Int) > _); decide, fun _ _ => rfl⟩

end
end DL

set_option Elab.async false
set_option linter.all false
set_option maxRecDepth 100000
set_option maxHeartbeats 4000000
set_option autoImplicit false
namespace DL
open PySem PySem.Spec PyProof.Rows L2
local macro_rules | `(tactic| walk_at "m") => `(tactic| first
  | with_reducible exact MAt.last | with_reducible exact MUp.last
  | exact MAt.zero | exact MUp.zero | exact MAt.last | exact MUp.last
  | (apply MAt.cons; walk_at "m") | (apply MUp.cons; walk_at "m")
  | (apply MAt.app; walk_at "m") | (apply MUp.app; walk_at "m")
  | assumption)
local macro_rules | `(tactic| walk_at "s1") => `(tactic| with_reducible first
  | refine sw_seq ?_ | refine sw_next ?_ | refine sw_ret ?_ | refine sw_retN ?_ | refine sw_asg ?_ | refine sw_asgG ?_ | refine sw_drop ?_ | refine sw_break ?_ | refine sw_cont ?_ | refine sw_par ?_ | refine sw_par3 ?_
  | refine tw_test ?_ | refine tw_B ?_ | refine tw_and ?_ | refine tw_or ?_ | refine tw_not ?_ | refine tw_yes ?_
  | refine ew_op ?_ | refine ew_un ?_ | refine ew_int ?_ | refine ew_non ?_ | refine ew_bl ?_ | refine ew_str ?_ | refine ew_ty ?_ | refine ew_ref ?_ | refine ew_cb ?_ | refine ew_if ?_ | refine ew_andV ?_ | refine ew_orV ?_ | refine ew_notV ?_ | refine ew_chain ?_ | refine ew_sl ?_ | refine pw_no ?_ | refine pw_part ?_
  | refine ew_call0 ?_ | refine ew_kw0 ?_
  | refine aw_nil ?_ | refine aw_cons ?_ | refine ew_bm ?_ | refine ew_bm0 ?_ | refine gs_L ?_
  | refine gs_nil ?_ | refine gs_cons ?_ | refine gw_name ?_
  | refine ow_addI ?_ | refine ow_odd ?_ | refine ow_i0 ?_ | refine ow_b0 ?_ | refine oq_eqI ?_ | refine oq_neI ?_ | refine oq_eqS ?_ | refine oq_neS ?_ | refine ow_isN ?_ | refine ow_notN ?_ | refine uw_neg ?_ | refine cw_int ?_ | refine cw_intB ?_ | refine cw_abs ?_ | refine cw_mx2 ?_ | refine cw_mn2 ?_ | refine cw_lenL ?_ | refine cw_lenR ?_ | refine cw_listL ?_ | refine cw_listT ?_ | refine lw_L ?_ | refine ew_revL ?_)
local macro_rules | `(tactic| walk_at "s2") => `(tactic| first
  | ((with_reducible refine' ew_var ?hv ?_); (case hv => exact rfl))
  | ((with_reducible refine' oi_M ?hm ?hi ?_); (case hm => walk_at "m"); (case hi => exact rfl))
  | ((with_reducible refine' ow_ixT ?hi ?_); (case hi => exact rfl))
  | ((with_reducible refine' cl_M ?hm ?_); (case hm => walk_at "m"))
  | ((with_reducible refine' ci_M ?hm ?_); (case hm => walk_at "m"))
  | ((with_reducible refine' ma_app ?hm ?ll ?_); (case hm => walk_at "m"); (case ll => walk_at "l"))
  | ((with_reducible refine' And.intro (ty_A ?hm) ?_); (case hm => walk_at "m"))
  | (with_reducible refine' Exists.intro _ (And.intro ?he ?_); (case he => exact rfl))
  | (with_reducible refine' Exists.intro _ (Exists.intro _ (And.intro ?he ?_)); (case he => exact rfl))
  | (with_reducible refine' Exists.intro _ (Exists.intro _ (Exists.intro _ (And.intro ?he ?_))); (case he => exact rfl))
  | ((with_reducible refine' Exists.intro _ (Exists.intro _ (Exists.intro _ (Exists.intro _ (Exists.intro _ (And.intro ?e1 (And.intro ?e2 (And.intro ?hm (And.intro ?hi ?_))))))))); (case e1 => exact rfl); (case e2 => exact rfl); (case hm => walk_at "m"); (case hi => exact rfl)))
local macro_rules | `(tactic| walk_at "l") => `(tactic| first | assumption | exact lt_sz (by omega) | exact lt_sz (by simp only [List.length_map, List.length_append, List.length_cons, List.length_nil, List.length_take, List.length_drop, List.length_range]; omega))
local macro_rules | `(tactic| walk_at "s") => `(tactic| repeat (first | walk_at "s1" | walk_at "s2"))
local macro_rules | `(tactic| walk_at "sx") => `(tactic| with_reducible first
  | refine swx_of ?_ | refine swx_seq ?_ | refine swx_drop ?_ | refine swx_asg ?_ | refine swx_ret ?_ | refine ewx_fun ?_ | refine ewx_meth ?_ | refine ewx_make ?_ | refine ewx_sub ?_)
local macro_rules | `(tactic| walk_at "s") => `(tactic| repeat (first | walk_at "s1" | walk_at "s2" | walk_at "sx"))
local macro_rules | `(tactic| walk_at "g1") => `(tactic| with_reducible first
  | refine ew_tup2 ?_ | refine ew_tup3 ?_ | refine ew_tup4 ?_ | refine ew_fldI ?_ | refine sw_fldA ?_ | refine ew_dget1 ?_ | refine ew_dget2 ?_ | refine ow_isN ?_)
local macro_rules | `(tactic| walk_at "g2") => `(tactic| first
  | ((with_reducible refine' gw_tup ?e ?_); (case e => exact rfl))
  | ((with_reducible refine' oi_L ?e ?_); (case e => exact rfl))
  | ((refine' Exists.intro _ (And.intro ?cl (And.intro ?na (And.intro ?e ?_)))); (case cl => assumption); (case na => assumption); (case e => exact rfl))
  | ((refine' Exists.intro _ (Exists.intro _ (Exists.intro _ (Exists.intro _ (And.intro ?e (And.intro ?hm (And.intro ?cl (And.intro ?na (And.intro ?l ?_))))))))); (case e => exact rfl); (case hm => walk_at "m"); (case cl => assumption); (case na => assumption); (case l => exact Nat.le_of_ble_eq_true rfl)))
local macro_rules | `(tactic| walk_at "g") => `(tactic| repeat (first | walk_at "s1" | walk_at "s2" | walk_at "sx" | walk_at "g1" | walk_at "g2"))

section
variable {P : Program} {w : World} {K : PySem.W.Frag} {mg : Str → Option Value} {base : Heap} {a : Ads}
theorem LET_at (i : Nat) (h : i < 26) : ∃ c, L2.atI LET.cps.toList ((i : Nat) : Int) = some c ∧ LET.cps.toList[i]? = some c ∧ c ∈ LET.cps.toList := by
  have hl : LET.cps.toList.length = 26 := by decide +kernel
  have hi : i < LET.cps.toList.length := by omega
  have e : LET.cps.toList[i]? = some LET.cps.toList[i] := List.getElem?_eq_getElem hi
  exact ⟨_, atI_lt (Int.natCast_nonneg i) (by rw [Int.toNat_natCast]; exact e), e, List.getElem_mem hi⟩
abbrev chS (c : Nat) : Str := ⟨#[c]⟩
theorem app_cps (a b : Str) : (a ++ b).cps.toList = a.cps.toList ++ b.cps.toList := by
  show (a.cps ++ b.cps).toList = _
  simp
theorem join_chs : ∀ cs : List Nat, (Str.join "" (cs.map chS)).cps.toList = cs
  | [] => rfl
  | [c] => rfl
  | c :: d :: cs => by
    have ih := join_chs (d :: cs)
    show ((chS c ++ "") ++ Str.join "" ((d :: cs).map chS)).cps.toList = _
    rw [app_cps, app_cps, ih]
    rfl
theorem join_chs2 (cs : List Nat) : (Txt.join "" (cs.map chS)).cps.toList = cs := by
  have := join_closes (sep := "") (sep' := "") (ys := cs.map chS) rfl
  rw [beq_iff_eq.mp this]
  exact join_chs cs
theorem chs_sum (cs : List Nat) : ((cs.map chS).map (·.length)).sum = cs.length := by
  induction cs with
  | nil => rfl
  | cons c cs ih =>
    rw [List.map_cons, List.map_cons, List.sum_cons, ih, List.length_cons]
    have : (chS c).length = 1 := rfl
    omega
theorem cutS_to {z : Str} {i : Nat} : (cutS z none (some ((i : Nat) : Int))).cps.toList = z.cps.toList.take i := by
  unfold cutS
  rw [HT.sIx_none, HT.sIx_nat]
  have hl : z.length = z.cps.toList.length := by simp [Str.length]
  simp only [Nat.sub_zero, List.drop_zero]
  rw [List.take_eq_take_iff]
  omega
theorem cutS_from {z : Str} {i : Nat} : (cutS z (some ((i : Nat) : Int)) none).cps.toList = z.cps.toList.drop i := by
  unfold cutS
  rw [HT.sIx_none, HT.sIx_nat]
  have hl : z.length = z.cps.toList.length := by simp [Str.length]
  show (z.cps.toList.drop (min i z.length)).take (z.length - min i z.length) = _
  rw [List.take_of_length_le (by rw [List.length_drop]; omega)]
  by_cases l : i ≤ z.length
  · rw [Nat.min_eq_left l]
  · rw [Nat.min_eq_right (by omega), List.drop_of_length_le (by omega), List.drop_of_length_le (by omega)]
theorem LET_nd : LET.cps.toList.Nodup := by decide +kernel
def T12 : List Str := ["early", "keyed", "ranks", "plain", "look", "off", "on", "add", "state", "cut", "done", "run"]
theorem T12_nd : T12.Nodup := by decide +kernel
theorem T12_nm : ∀ x ∈ T12, nameB x = true := by decide +kernel
def F_tags : FS := fun ds m Q => ∃ (p : Addr) (c : Cell) (rest : Mem) (n k : Nat), ds = [.adr p, .int (k : Nat)] ∧ m = (p, c) :: rest ∧ Kit n c ∧ n + 20 < 2 ^ 40 ∧ k ≤ 12 ∧
  ∀ (ws : List Str) (c' : Cell), Tags k ws → Kit (n + 20) c' → Q (.lst (ws.map .str)) ((p, c') :: rest)
theorem ok__law_tags (T : Txt K mg a) : Def P w K mg base 3 a.f__law_tags ["kit", "many"] (FSn 2 (F_tags)) := by
  have nd := sc__law_tags.nd
  have C__law_toss := ok__law_toss (P := P) (w := w) (base := base) T
  refine defOk T.h__law_tags sc__law_tags (fun _ _ _ h => h.1) (fun cdv A outer s H E hr => by exact (pss_cons (ps_asg (pe_tup (pa_cons pe_str (pa_cons (kx_def K rfl C__law_toss (hr.mono (by decide)) rfl T.g__law_toss T.k__law_toss (pa_cons (pv 0) (pa_cons pe_int pa_nil))) (pa_cons (kx_def K rfl C__law_toss (hr.mono (by decide)) rfl T.g__law_toss T.k__law_toss (pa_cons (pv 0) (pa_cons pe_int pa_nil))) pa_nil)))) (kx_tup K rfl (n := 3) (by rfl) (pgs_cons (pg_name (i := 2) nd rfl (Or.inr rfl)) (pgs_cons (pg_name (i := 3) nd rfl (Or.inl rfl)) (pgs_cons (pg_name (i := 4) nd rfl (Or.inr rfl)) pgs_nil)))))
    (pss_cons (ps_if (PW.pt (pw_and (pt_cmpR (kx_eqU K rfl hr.units) (pv 3) pe_int (nomark _)) (pw_and1 (pt_cmpR op_lt (pv 1) pe_int (nomark _))))) (pss_one (ps_ret (pe_lc (own := [("k", 9)]) (g := (gName 9)) (tt := tYes) rfl nd (pi_range1 (by rfl) T.n_range (pa_cons (pv 1) pa_nil)) (blkOk_by (own := [("k", 9)]) (N := N__law_tags) (sc := defScope s__law_tags) (by decide +kernel)) (fun _ _ _ _ _ => (pg_name (i := 9) nd rfl (by first | exact Or.inl rfl | exact Or.inr rfl))) (fun _ _ _ _ _ => pts_nil) (fun _ _ _ _ _ => (pe_op op_mulU (pe_ix (kx_ix K rfl hr.units) (pv 2) (pv 4) (fun _ _ => rfl)) (pe_op op_addU (pv 9) pe_int)))))) pss_nil)
    (pss_cons (ps_if (pt_cmpR (kx_eqU K rfl hr.units) (pv 3) pe_int (nomark _)) (pss_cons (ps_set (i := 5) nd rfl (Or.inr rfl) (pe_lst (pa_cons pe_str (pa_cons pe_str (pa_cons pe_str (pa_cons pe_str (pa_cons pe_str (pa_cons pe_str (pa_cons pe_str (pa_cons pe_str (pa_cons pe_str (pa_cons pe_str (pa_cons pe_str (pa_cons pe_str pa_nil))))))))))))))
    (pss_one (ps_ret (pe_lc (own := [("k", 9)]) (g := (gName 9)) (tt := tYes) rfl nd (pi_range1 (by rfl) T.n_range (pa_cons (pv 1) pa_nil)) (blkOk_by (own := [("k", 9)]) (N := N__law_tags) (sc := defScope s__law_tags) (by decide +kernel)) (fun _ _ _ _ _ => (pg_name (i := 9) nd rfl (by first | exact Or.inl rfl | exact Or.inr rfl))) (fun _ _ _ _ _ => pts_nil) (fun _ _ _ _ _ => (pe_ix (kx_ix K rfl hr.units) (pv 5) (pe_op op_mod (pe_callTy cr_int1 (by rfl) T.n_int (by decide +kernel) (pa_cons (pe_op op_addU (pv 4) (pe_op op_mulU pe_int (pv 9))) pa_nil)) pe_int) (fun _ _ => rfl))))))) pss_nil)
    (pss_cons (ps_set (i := 6) nd rfl (Or.inr rfl) (kx_bm K rfl PySem.F.plainAttrs_str PySem.F.slot_str_join PySem.F.type_str_join (kx_join K rfl) pe_str (pa_cons (pe_lc (own := [("turn", 10)]) (g := (gName 10)) (tt := tYes) rfl nd (pi_range1 (by rfl) T.n_range (pa_cons (pe_op op_addU pe_int (kx_def K rfl C__law_toss (hr.mono (by decide)) rfl T.g__law_toss T.k__law_toss (pa_cons (pv 0) (pa_cons pe_int pa_nil)))) pa_nil)) (blkOk_by (own := [("turn", 10)]) (N := N__law_tags) (sc := defScope s__law_tags) (by decide +kernel)) (fun _ _ _ _ _ => (pg_name (i := 10) nd rfl (by first | exact Or.inl rfl | exact Or.inr rfl))) (fun _ _ _ _ _ => pts_nil) (fun _ _ _ _ _ => (pe_ix (kx_ix K rfl hr.units) (pv 2) (kx_def K rfl C__law_toss (hr.mono (by decide)) rfl T.g__law_toss T.k__law_toss (pa_cons (pv 0) (pa_cons pe_int pa_nil))) (fun _ _ => rfl)))) pa_nil)))
    (pss_cons (ps_asg (pe_tup (pa_cons (kx_def K rfl C__law_toss (hr.mono (by decide)) rfl T.g__law_toss T.k__law_toss (pa_cons (pv 0) (pa_cons (pe_callB (kx_len K rfl) (by rfl) T.n_len (by decide +kernel) (pa_cons (pv 6) pa_nil)) pa_nil))) (pa_cons (pe_ix (kx_ix K rfl hr.units) (pe_lst (pa_cons pe_int (pa_cons pe_int (pa_cons pe_int (pa_cons pe_int (pa_cons pe_int pa_nil)))))) (kx_def K rfl C__law_toss (hr.mono (by decide)) rfl T.g__law_toss T.k__law_toss (pa_cons (pv 0) (pa_cons pe_int pa_nil))) (fun _ _ => rfl)) pa_nil))) (kx_tup K rfl (n := 2) (by rfl) (pgs_cons (pg_name (i := 7) nd rfl (Or.inr rfl)) (pgs_cons (pg_name (i := 8) nd rfl (Or.inr rfl)) pgs_nil))))
    (pss_one (ps_ret (pe_lc (own := [("k", 9)]) (g := (gName 9)) (tt := tYes) rfl nd (pi_range1 (by rfl) T.n_range (pa_cons (pv 1) pa_nil)) (blkOk_by (own := [("k", 9)]) (N := N__law_tags) (sc := defScope s__law_tags) (by decide +kernel)) (fun _ _ _ _ _ => (pg_name (i := 9) nd rfl (by first | exact Or.inl rfl | exact Or.inr rfl))) (fun _ _ _ _ _ => pts_nil) (fun _ _ _ _ _ => (pe_op op_addU (pe_op op_addU (pe_slice (kx_sl K rfl) (pv 6) po_none (po_some (pv 7))) (pe_ix (kx_ix K rfl hr.units) (pv 2) (pe_op op_mod (pe_callTy cr_int1 (by rfl) T.n_int (by decide +kernel) (pa_cons (pe_op op_addU (pv 4) (pe_op op_mulU (pv 8) (pv 9))) pa_nil)) pe_int) (fun _ _ => rfl))) (pe_slice (kx_sl K rfl) (pv 6) (po_some (pe_op op_addU (pv 7) pe_int)) po_none)))))))))))) (fun ds m Q h => ?_)
  replace h := h.2
  clear nd
  obtain ⟨p, c, rest, n, k, rfl, rfl, hk, hn, k12, q⟩ := h
  walk_at "s"
  refine ew_tup ?_
  walk_at "s"
  refine use_toss hk (by omega) (by omega) (by omega) fun way c1 hw k1 => ?_
  walk_at "s"
  refine use_toss k1 (by omega) (by omega) (by omega) fun at_ c2 ha k2 => ?_
  have ha : at_ < 26 := by omega
  walk_at "s"
  refine ⟨Nat.le_of_ble_eq_true rfl, gw_tup rfl ?_⟩
  walk_at "s"
  have sizeL : LET.length ≤ sizeLine := le_sz (by decide +kernel)
  obtain ⟨ch, hat, _, hch⟩ := LET_at at_ ha
  refine sw_ifJ (fun δ' m' => δ' = [some (.adr p), some (.int (k : Nat)), some (.str LET), some (.int (way : Nat)), some (.int (at_ : Nat)), none, none, none, none, none, none] ∧ m' = (p, c2) :: rest) ?_ ?_
  · walk_at "s"
    refine iteD (fun h0 => ?_) (fun h0 => ?_)
    · walk_at "s"
      refine iteD (fun h9 => ?_) (fun h9 => ?_)
      · have h9 : k ≤ 8 := by omega
        walk_at "s"
        refine ew_lcF (tame_name (by decide)) (iw_rngN ?_)
        walk_at "s"
        refine ⟨by omega, Nat, List.range k, natD, fun i => .str (Txt.mul ⟨#[ch]⟩ ((i : Nat) + 1)), rfl, by rw [List.length_range]; exact le_sz (by omega), ?_, ?_⟩
        · intro i acc z hi
          have hi : i < k := List.mem_range.mp hi
          walk_at "s"
          refine ⟨rfl, ?_⟩
          walk_at "s"
          refine ow_ixS sizeL hat ?_
          walk_at "s"
          refine ow_mulS (mulOk1 ch (by omega) (by omega)) ?_
          exact ⟨rfl, rfl⟩
        · have t : Tags k ((List.range k).map fun i => Txt.mul ⟨#[ch]⟩ ((i : Nat) + 1)) := by
            refine ⟨by simp, nd_mapOn (fun a _ b _ e => ?_) List.nodup_range, fun x hx => ?_⟩
            · have e2 := congrArg (fun x : Str => x.cps.toList.length) e
              simp only [mul_one_list, List.length_replicate] at e2
              omega
            · obtain ⟨i, hi, rfl⟩ := List.mem_map.mp hx
              have hi : i < k := List.mem_range.mp hi
              refine name_of (mul_one_list ch _) (by rw [List.length_replicate]; omega) (by rw [List.length_replicate]; omega) fun c hc => ?_
              rw [(List.mem_replicate.mp hc).2]
              exact hch
          have q2 := q _ c2 t (k2.up (by omega))
          rw [List.map_map] at q2
          exact q2
      · walk_at "s"
        exact ⟨rfl, rfl⟩
    · rw [if_neg Bool.false_ne_true]
      walk_at "s"
      exact ⟨rfl, rfl⟩
  · rintro δ' m' ⟨rfl, rfl⟩
    walk_at "s"
    refine sw_if ?_
    walk_at "s"
    refine iteD (fun h0 => ?_) (fun h0 => ?_)
    · walk_at "s"
      refine ew_lst ?_
      walk_at "s"
      refine ⟨Nat.le_of_ble_eq_true rfl, ?_⟩
      walk_at "s"
      have et : [D.str "early", .str "keyed", .str "ranks", .str "plain", .str "look", .str "off", .str "on", .str "add", .str "state", .str "cut", .str "done", .str "run"] = T12.map D.str := rfl
      rw [et]
      refine ew_lcF (tame_name (by decide)) (iw_rngN ?_)
      walk_at "s"
      refine ⟨by omega, Nat, List.range k, natD, fun i => .str (T12.getD ((at_ + 5 * i) % 12) ""), rfl, by rw [List.length_range]; exact le_sz (by omega), ?_, ?_⟩
      · intro i acc z hi
        have hi : i < k := List.mem_range.mp hi
        have hm : (at_ + 5 * i) % 12 < T12.length := Nat.mod_lt _ (by decide)
        walk_at "s"
        refine ⟨rfl, ?_⟩
        walk_at "s"
        refine ow_mul2 (by decide) ?_
        walk_at "s"
        refine ow_ic (by decide) ?_
        rw [show ((at_ : Nat) : Int) + 5 * ((i : Nat) : Int) = ((at_ + 5 * i : Nat) : Int) by omega, show (((at_ + 5 * i : Nat) : Int) % 12) = (((at_ + 5 * i) % 12 : Nat) : Int) by omega]
        refine oi_L (at_map (f := D.str) (List.getElem?_eq_getElem hm)) ?_
        refine ⟨?_, rfl⟩
        show _ = D.str _
        rw [List.getD_eq_getElem?_getD, List.getElem?_eq_getElem hm]
        rfl
      · have t : Tags k ((List.range k).map fun i => T12.getD ((at_ + 5 * i) % 12) "") := by
          refine ⟨by simp, nd_mapOn (fun a ha2 b hb2 e => ?_) List.nodup_range, fun x hx => ?_⟩
          · have ha2 := List.mem_range.mp ha2
            have hb2 := List.mem_range.mp hb2
            have h1 : (at_ + 5 * a) % 12 < T12.length := Nat.mod_lt _ (by decide)
            have h2 : (at_ + 5 * b) % 12 < T12.length := Nat.mod_lt _ (by decide)
            rw [List.getD_eq_getElem?_getD, List.getElem?_eq_getElem h1, List.getD_eq_getElem?_getD, List.getElem?_eq_getElem h2, Option.getD_some, Option.getD_some] at e
            have a1 := T12_nd.idxOf_getElem _ h1
            have a2 := T12_nd.idxOf_getElem _ h2
            rw [e] at a1
            omega
          · obtain ⟨i, _, rfl⟩ := List.mem_map.mp hx
            have hm : (at_ + 5 * i) % 12 < T12.length := Nat.mod_lt _ (by decide)
            rw [List.getD_eq_getElem?_getD, List.getElem?_eq_getElem hm]
            exact T12_nm _ (List.getElem_mem hm)
        have q2 := q _ c2 t (k2.up (by omega))
        rw [List.map_map] at q2
        exact q2
    · walk_at "s"
      refine ⟨ty_S, ?_⟩
      walk_at "s"
      refine ew_lcD (α := Nat) (fun c => .str (chS c)) (fun _ c => c ∈ LET.cps.toList) (fun j m' => ∃ c' : Cell, m' = (p, c') :: rest ∧ Kit (n + 3 + j) c') (tame_name (by decide)) (iw_rngN ?_)
      walk_at "s"
      refine use_toss k2 (by omega) (by omega) (by omega) fun r3 c3 h3 k3 => ?_
      walk_at "s"
      rw [show (1 : Int) + (r3 : Nat) = ((1 + r3 : Nat) : Int) by omega]
      refine ⟨1 + r3, rfl, by omega, List.range (1 + r3), _, rfl, by rw [List.length_range]; exact le_sz (by omega), ⟨c3, rfl, k3⟩, ?_, ?_⟩
      · rintro j x acc m' z hx ⟨c', rfl, kc⟩
        obtain ⟨hj, rfl⟩ := range_get hx
        walk_at "s"
        refine ⟨rfl, ?_⟩
        walk_at "s"
        refine use_toss kc (by omega) (by omega) (by omega) fun r4 c4 h4 k4 => ?_
        obtain ⟨ch4, hat4, _, hch4⟩ := LET_at r4 (by omega)
        refine ow_ixS sizeL hat4 ?_
        exact ⟨ch4, (p, c4) :: rest, rfl, hch4, rfl, c4, rfl, k4⟩
      · rintro cs m' hl hcs ⟨c4, rfl, k4⟩
        rw [List.length_range] at hl k4
        walk_at "s"
        have ecs : (cs.map fun c => D.str (chS c)) = (cs.map chS).map D.str := by rw [List.map_map]; rfl
        rw [ecs]
        refine cw_join (by rw [chs_sum, List.length_map, show (Str.ofString "").length = 0 from rfl]; omega) ?_
        have hst := join_chs2 cs
        generalize Txt.join "" (cs.map chS) = stem at hst ⊢
        have hsl : stem.length = 1 + r3 := by
          rw [← hl, ← hst]
          simp [Str.length]
        have hcm : ∀ c ∈ cs, c ∈ LET.cps.toList := fun c hc => by
          obtain ⟨i, hi⟩ := List.getElem?_of_mem hc
          exact hcs i c hi
        walk_at "s"
        refine ew_tup ?_
        walk_at "s"
        refine cw_lenS (le_sz (by omega)) ?_
        walk_at "s"
        refine use_toss k4 (by omega) (by omega) (by omega) fun spot c5 h5 k5 => ?_
        have h5 : spot < 1 + r3 := by omega
        walk_at "s"
        refine ew_lst ?_
        walk_at "s"
        refine ⟨Nat.le_of_ble_eq_true rfl, ?_⟩
        walk_at "s"
        refine use_toss k5 (by omega) (by omega) (by omega) fun r6 c6 h6 k6 => ?_
        obtain ⟨pace, hp, hpc⟩ : ∃ pace : Nat, L2.atI [D.int 1, .int 3, .int 5, .int 7, .int 11] ((r6 : Nat) : Int) = some (.int (pace : Nat)) ∧ (pace = 1 ∨ pace = 3 ∨ pace = 5 ∨ pace = 7 ∨ pace = 11) := by
          rcases (by omega : r6 = 0 ∨ r6 = 1 ∨ r6 = 2 ∨ r6 = 3 ∨ r6 = 4) with rfl | rfl | rfl | rfl | rfl
          · exact ⟨1, rfl, .inl rfl⟩
          · exact ⟨3, rfl, .inr (.inl rfl)⟩
          · exact ⟨5, rfl, .inr (.inr (.inl rfl))⟩
          · exact ⟨7, rfl, .inr (.inr (.inr (.inl rfl)))⟩
          · exact ⟨11, rfl, .inr (.inr (.inr (.inr rfl)))⟩
        refine oi_L hp ?_
        walk_at "s"
        refine ⟨Nat.le_of_ble_eq_true rfl, gw_tup rfl ?_⟩
        walk_at "s"
        refine ew_lcF (tame_name (by decide)) (iw_rngN ?_)
        walk_at "s"
        refine ⟨by omega, Nat, List.range k, natD, fun i => .str (cutS stem none (some ((spot : Nat) : Int)) ++ chS (LET.cps.toList.getD ((at_ + pace * i) % 26) 0) ++ cutS stem (some ((spot + 1 : Nat) : Int)) none), rfl, by rw [List.length_range]; exact le_sz (by omega), ?_, ?_⟩
        · intro i acc z hi
          have hi : i < k := List.mem_range.mp hi
          walk_at "s"
          refine ⟨rfl, ?_⟩
          walk_at "s"
          refine lw_S (le_sz (by omega)) ?_
          walk_at "s"
          obtain ⟨chi, hati, hgeti, hmi⟩ := LET_at ((at_ + pace * i) % 26) (Nat.mod_lt _ (by decide))
          have hch0 : LET.cps.toList.getD ((at_ + pace * i) % 26) 0 = chi := by rw [List.getD_eq_getElem?_getD, hgeti]; rfl
          have l1 : (cutS stem none (some ((spot : Nat) : Int))).length ≤ 8 := by
            have e : (cutS stem none (some ((spot : Nat) : Int))).length = (cutS stem none (some ((spot : Nat) : Int))).cps.toList.length := by simp [Str.length]
            rw [e, cutS_to, hst, List.length_take]
            omega
          have l2 : (cutS stem (some ((spot + 1 : Nat) : Int)) none).length ≤ 8 := by
            have e : (cutS stem (some ((spot + 1 : Nat) : Int)) none).length = (cutS stem (some ((spot + 1 : Nat) : Int)) none).cps.toList.length := by simp [Str.length]
            rw [e, cutS_from, hst, List.length_drop]
            omega
          have l3 : (chS chi).length = 1 := rfl
          have l4 : (cutS stem none (some ((spot : Nat) : Int)) ++ chS chi).length ≤ 9 := by
            have e : (cutS stem none (some ((spot : Nat) : Int)) ++ chS chi).length = (cutS stem none (some ((spot : Nat) : Int)) ++ chS chi).cps.toList.length := by simp [Str.length]
            rw [e, app_cps, List.length_append]
            have e1 : (cutS stem none (some ((spot : Nat) : Int))).length = (cutS stem none (some ((spot : Nat) : Int))).cps.toList.length := by simp [Str.length]
            have e2 : (chS chi).cps.toList.length = 1 := rfl
            omega
          refine ow_mul2 (by omega) ?_
          walk_at "s"
          refine ow_ic (by decide) ?_
          rw [show ((at_ : Nat) : Int) + (pace : Int) * (i : Int) = ((at_ + pace * i : Nat) : Int) by rw [Int.natCast_add, Int.natCast_mul], show (((at_ + pace * i : Nat) : Int) % 26) = (((at_ + pace * i) % 26 : Nat) : Int) by omega]
          refine ow_ixS sizeL hati ?_
          refine ow_addS (le_sz (show _ + (chS chi).length ≤ 16777216 by omega)) ?_
          walk_at "s"
          refine lw_S (le_sz (by omega)) ?_
          rw [show ((spot : Nat) : Int) + 1 = ((spot + 1 : Nat) : Int) by omega]
          refine ow_addS (le_sz (show (cutS stem none (some ((spot : Nat) : Int)) ++ chS chi).length + _ ≤ 16777216 by omega)) ?_
          refine ⟨?_, rfl⟩
          show _ = D.str _
          rw [hch0]
        · have cps : ∀ i, (cutS stem none (some ((spot : Nat) : Int)) ++ chS (LET.cps.toList.getD ((at_ + pace * i) % 26) 0) ++ cutS stem (some ((spot + 1 : Nat) : Int)) none).cps.toList = cs.take spot ++ [LET.cps.toList.getD ((at_ + pace * i) % 26) 0] ++ cs.drop (spot + 1) := fun i => by
            rw [app_cps, app_cps, cutS_to, cutS_from, hst]
          have t : Tags k ((List.range k).map fun i => cutS stem none (some ((spot : Nat) : Int)) ++ chS (LET.cps.toList.getD ((at_ + pace * i) % 26) 0) ++ cutS stem (some ((spot + 1 : Nat) : Int)) none) := by
            refine ⟨by simp, nd_mapOn (fun a ha2 b hb2 e => ?_) List.nodup_range, fun x hx => ?_⟩
            · have ha2 := List.mem_range.mp ha2
              have hb2 := List.mem_range.mp hb2
              have e2 := congrArg (fun x : Str => x.cps.toList) e
              simp only [cps] at e2
              have e3 := List.append_cancel_right e2
              have e4 := List.append_cancel_left e3
              have e5 : LET.cps.toList.getD ((at_ + pace * a) % 26) 0 = LET.cps.toList.getD ((at_ + pace * b) % 26) 0 := by injection e4
              have hl26 : LET.cps.toList.length = 26 := by decide +kernel
              have g1 : (at_ + pace * a) % 26 < LET.cps.toList.length := by rw [hl26]; exact Nat.mod_lt _ (by decide)
              have g2 : (at_ + pace * b) % 26 < LET.cps.toList.length := by rw [hl26]; exact Nat.mod_lt _ (by decide)
              rw [List.getD_eq_getElem?_getD, List.getElem?_eq_getElem g1, List.getD_eq_getElem?_getD, List.getElem?_eq_getElem g2, Option.getD_some, Option.getD_some] at e5
              have a1 := LET_nd.idxOf_getElem _ g1
              have a2 := LET_nd.idxOf_getElem _ g2
              rw [e5] at a1
              have a3 : (at_ + pace * a) % 26 = (at_ + pace * b) % 26 := a1.symm.trans a2
              rcases hpc with rfl | rfl | rfl | rfl | rfl <;> omega
            · obtain ⟨i, _, rfl⟩ := List.mem_map.mp hx
              obtain ⟨chi, _, hgeti, hmi⟩ := LET_at ((at_ + pace * i) % 26) (Nat.mod_lt _ (by decide))
              refine name_of (cps i) ?_ ?_ fun c hc => ?_
              · simp only [List.length_append, List.length_take, List.length_drop, List.length_cons, List.length_nil]
                omega
              · simp only [List.length_append, List.length_take, List.length_drop, List.length_cons, List.length_nil]
                omega
              · rcases List.mem_append.mp hc with hc | hc
                · rcases List.mem_append.mp hc with hc | hc
                  · exact hcm c (List.mem_of_mem_take hc)
                  · rw [List.mem_singleton] at hc
                    rw [hc, List.getD_eq_getElem?_getD, hgeti]
                    exact hmi
                · exact hcm c (List.mem_of_mem_drop hc)
          have q2 := q _ c6 t (k6.up (by omega))
          rw [List.map_map] at q2
          exact q2

end
end DL

set_option Elab.async false
set_option linter.all false
set_option maxRecDepth 100000
set_option maxHeartbeats 4000000
set_option autoImplicit false
namespace DL
open PySem PySem.Spec PyProof.Rows L2
local macro_rules | `(tactic| walk_at "m") => `(tactic| first
  | with_reducible exact MAt.last | with_reducible exact MUp.last
  | exact MAt.zero | exact MUp.zero | exact MAt.last | exact MUp.last
  | (apply MAt.cons; walk_at "m") | (apply MUp.cons; walk_at "m")
  | (apply MAt.app; walk_at "m") | (apply MUp.app; walk_at "m")
  | assumption)
local macro_rules | `(tactic| walk_at "s1") => `(tactic| with_reducible first
  | refine sw_seq ?_ | refine sw_next ?_ | refine sw_ret ?_ | refine sw_retN ?_ | refine sw_asg ?_ | refine sw_asgG ?_ | refine sw_drop ?_ | refine sw_break ?_ | refine sw_cont ?_ | refine sw_par ?_ | refine sw_par3 ?_
  | refine tw_test ?_ | refine tw_B ?_ | refine tw_and ?_ | refine tw_or ?_ | refine tw_not ?_ | refine tw_yes ?_
  | refine ew_op ?_ | refine ew_un ?_ | refine ew_int ?_ | refine ew_non ?_ | refine ew_bl ?_ | refine ew_str ?_ | refine ew_ty ?_ | refine ew_ref ?_ | refine ew_cb ?_ | refine ew_if ?_ | refine ew_andV ?_ | refine ew_orV ?_ | refine ew_notV ?_ | refine ew_chain ?_ | refine ew_sl ?_ | refine pw_no ?_ | refine pw_part ?_
  | refine ew_call0 ?_ | refine ew_kw0 ?_
  | refine aw_nil ?_ | refine aw_cons ?_ | refine ew_bm ?_ | refine ew_bm0 ?_ | refine gs_L ?_
  | refine gs_nil ?_ | refine gs_cons ?_ | refine gw_name ?_
  | refine ow_addI ?_ | refine ow_odd ?_ | refine ow_i0 ?_ | refine ow_b0 ?_ | refine oq_eqI ?_ | refine oq_neI ?_ | refine oq_eqS ?_ | refine oq_neS ?_ | refine ow_isN ?_ | refine ow_notN ?_ | refine uw_neg ?_ | refine cw_int ?_ | refine cw_intB ?_ | refine cw_abs ?_ | refine cw_mx2 ?_ | refine cw_mn2 ?_ | refine cw_lenL ?_ | refine cw_lenR ?_ | refine cw_listL ?_ | refine cw_listT ?_ | refine lw_L ?_ | refine ew_revL ?_)
local macro_rules | `(tactic| walk_at "s2") => `(tactic| first
  | ((with_reducible refine' ew_var ?hv ?_); (case hv => exact rfl))
  | ((with_reducible refine' oi_M ?hm ?hi ?_); (case hm => walk_at "m"); (case hi => exact rfl))
  | ((with_reducible refine' ow_ixT ?hi ?_); (case hi => exact rfl))
  | ((with_reducible refine' cl_M ?hm ?_); (case hm => walk_at "m"))
  | ((with_reducible refine' ci_M ?hm ?_); (case hm => walk_at "m"))
  | ((with_reducible refine' ma_app ?hm ?ll ?_); (case hm => walk_at "m"); (case ll => walk_at "l"))
  | ((with_reducible refine' And.intro (ty_A ?hm) ?_); (case hm => walk_at "m"))
  | (with_reducible refine' Exists.intro _ (And.intro ?he ?_); (case he => exact rfl))
  | (with_reducible refine' Exists.intro _ (Exists.intro _ (And.intro ?he ?_)); (case he => exact rfl))
  | (with_reducible refine' Exists.intro _ (Exists.intro _ (Exists.intro _ (And.intro ?he ?_))); (case he => exact rfl))
  | ((with_reducible refine' Exists.intro _ (Exists.intro _ (Exists.intro _ (Exists.intro _ (Exists.intro _ (And.intro ?e1 (And.intro ?e2 (And.intro ?hm (And.intro ?hi ?_))))))))); (case e1 => exact rfl); (case e2 => exact rfl); (case hm => walk_at "m"); (case hi => exact rfl)))
local macro_rules | `(tactic| walk_at "l") => `(tactic| first | assumption | exact lt_sz (by omega) | exact lt_sz (by simp only [List.length_map, List.length_append, List.length_cons, List.length_nil, List.length_take, List.length_drop, List.length_range]; omega))
local macro_rules | `(tactic| walk_at "s") => `(tactic| repeat (first | walk_at "s1" | walk_at "s2"))
local macro_rules | `(tactic| walk_at "sx") => `(tactic| with_reducible first
  | refine swx_of ?_ | refine swx_seq ?_ | refine swx_drop ?_ | refine swx_asg ?_ | refine swx_ret ?_ | refine ewx_fun ?_ | refine ewx_meth ?_ | refine ewx_make ?_ | refine ewx_sub ?_)
local macro_rules | `(tactic| walk_at "s") => `(tactic| repeat (first | walk_at "s1" | walk_at "s2" | walk_at "sx"))
local macro_rules | `(tactic| walk_at "g1") => `(tactic| with_reducible first
  | refine ew_tup2 ?_ | refine ew_tup3 ?_ | refine ew_tup4 ?_ | refine ew_fldI ?_ | refine sw_fldA ?_ | refine ew_dget1 ?_ | refine ew_dget2 ?_ | refine ow_isN ?_)
local macro_rules | `(tactic| walk_at "g2") => `(tactic| first
  | ((with_reducible refine' gw_tup ?e ?_); (case e => exact rfl))
  | ((with_reducible refine' oi_L ?e ?_); (case e => exact rfl))
  | ((refine' Exists.intro _ (And.intro ?cl (And.intro ?na (And.intro ?e ?_)))); (case cl => assumption); (case na => assumption); (case e => exact rfl))
  | ((refine' Exists.intro _ (Exists.intro _ (Exists.intro _ (Exists.intro _ (And.intro ?e (And.intro ?hm (And.intro ?cl (And.intro ?na (And.intro ?l ?_))))))))); (case e => exact rfl); (case hm => walk_at "m"); (case cl => assumption); (case na => assumption); (case l => exact Nat.le_of_ble_eq_true rfl)))
local macro_rules | `(tactic| walk_at "g") => `(tactic| repeat (first | walk_at "s1" | walk_at "s2" | walk_at "sx" | walk_at "g1" | walk_at "g2"))

section
variable {P : Program} {w : World} {K : PySem.W.Frag} {mg : Str → Option Value} {base : Heap} {a : Ads}
def AnsOk : Option Int → Prop
  | none => True
  | some a => -1000 ≤ a ∧ a ≤ 1000
theorem ans01 (b : Bool) : AnsOk (some (if b = true then 1 else 0)) := by
  cases b
  · show (-1000 : Int) ≤ 0 ∧ (0 : Int) ≤ 1000
    decide
  · show (-1000 : Int) ≤ 1 ∧ (1 : Int) ≤ 1000
    decide
structure Col (k : Nat) (r : List Step) : Prop where
  len : r.length = k
  ok : ∀ s ∈ r, s.1 < k ∧ AnsOk s.2
def F_answer : FS := fun ds m Q => ∃ (p : Addr) (c : Cell) (rest : Mem) (n : Nat), ds = [.adr p] ∧ m = (p, c) :: rest ∧ Kit n c ∧ n + 3 < 2 ^ 40 ∧
  ∀ (t : Option Int) (c' : Cell), AnsOk t → Kit (n + 3) c' → Q (ansD t) ((p, c') :: rest)
theorem ok__law_answer (T : Txt K mg a) : Def P w K mg base 3 a.f__law_answer ["kit"] (FSn 1 (F_answer)) := by
  have nd := sc__law_answer.nd
  have C__law_toss := ok__law_toss (P := P) (w := w) (base := base) T
  refine defOk T.h__law_answer sc__law_answer (fun _ _ _ h => h.1) (fun cdv A outer s H E hr => by exact (pss_one (ps_ret (pe_ix (kx_ix K rfl hr.units) (pe_lst (pa_cons pe_non (pa_cons pe_non (pa_cons pe_int (pa_cons pe_int (pa_cons (pe_op op_sub (kx_def K rfl C__law_toss (hr.mono (by decide)) rfl T.g__law_toss T.k__law_toss (pa_cons (pv 0) (pa_cons pe_int pa_nil))) pe_int) (pa_cons (pe_op op_sub (kx_def K rfl C__law_toss (hr.mono (by decide)) rfl T.g__law_toss T.k__law_toss (pa_cons (pv 0) (pa_cons pe_int pa_nil))) pe_int) pa_nil))))))) (kx_def K rfl C__law_toss (hr.mono (by decide)) rfl T.g__law_toss T.k__law_toss (pa_cons (pv 0) (pa_cons pe_int pa_nil))) (fun _ _ => rfl))))) (fun ds m Q h => ?_)
  replace h := h.2
  clear nd
  obtain ⟨p, c, rest, n, rfl, rfl, hk, hn, q⟩ := h
  walk_at "s"
  refine ew_lst ?_
  walk_at "s"
  refine use_toss hk (by omega) (by omega) (by omega) fun r1 c1 h1 k1 => ?_
  walk_at "s"
  refine use_toss k1 (by omega) (by omega) (by omega) fun r2 c2 h2 k2 => ?_
  walk_at "s"
  refine ⟨Nat.le_of_ble_eq_true rfl, ?_⟩
  walk_at "s"
  refine use_toss k2 (by omega) (by omega) (by omega) fun r3 c3 h3 k3 => ?_
  rcases (by omega : r3 = 0 ∨ r3 = 1 ∨ r3 = 2 ∨ r3 = 3 ∨ r3 = 4 ∨ r3 = 5) with rfl | rfl | rfl | rfl | rfl | rfl
  · exact oi_L (d := .non) rfl (q none c3 trivial k3)
  · exact oi_L (d := .non) rfl (q none c3 trivial k3)
  · exact oi_L (d := .int 0) rfl (q (some 0) c3 (by unfold AnsOk; omega) k3)
  · exact oi_L (d := .int 1) rfl (q (some 1) c3 (by unfold AnsOk; omega) k3)
  · exact oi_L (d := .int (r1 - 2)) rfl (q (some (r1 - 2)) c3 (by unfold AnsOk; omega) k3)
  · exact oi_L (d := .int (r2 - 1000)) rfl (q (some (r2 - 1000)) c3 (by unfold AnsOk; omega) k3)
theorem use_answer {p : Addr} {c : Cell} {rest : Mem} {n : Nat} {Q : D → Mem → Prop} (hk : Kit n c) (hn : n + 3 < 2 ^ 40) (q : ∀ (t : Option Int) (c' : Cell), AnsOk t → Kit (n + 3) c' → Q (ansD t) ((p, c') :: rest)) : FSn 1 F_answer [.adr p] ((p, c) :: rest) Q :=
  ⟨rfl, p, c, rest, n, rfl, rfl, hk, hn, q⟩
def F_column : FS := fun ds m Q => ∃ (p : Addr) (c : Cell) (rest : Mem) (n k : Nat), ds = [.adr p, .int (k : Nat)] ∧ m = (p, c) :: rest ∧ Kit n c ∧ n + 200 < 2 ^ 40 ∧ 0 < k ∧ k ≤ 25 ∧
  ∀ (r : List Step) (c' : Cell), Col k r → Kit (n + 200) c' → Q (rowD r) ((p, c') :: rest)
theorem ok__law_column (T : Txt K mg a) : Def P w K mg base 4 a.f__law_column ["kit", "many"] (FSn 2 (F_column)) := by
  have nd := sc__law_column.nd
  have C__law_answer := ok__law_answer (P := P) (w := w) (base := base) T
  have C__law_toss := ok__law_toss (P := P) (w := w) (base := base) T
  refine defOk T.h__law_column sc__law_column (fun _ _ _ h => h.1) (fun cdv A outer s H E hr => by exact (pss_cons (ps_asg (pe_tup (pa_cons (kx_def K rfl C__law_toss (hr.mono (by decide)) rfl T.g__law_toss T.k__law_toss (pa_cons (pv 0) (pa_cons pe_int pa_nil))) (pa_cons (kx_def K rfl C__law_toss (hr.mono (by decide)) rfl T.g__law_toss T.k__law_toss (pa_cons (pv 0) (pa_cons (pv 1) pa_nil))) (pa_cons (kx_def K rfl C__law_answer (hr.mono (by decide)) rfl T.g__law_answer T.k__law_answer (pa_cons (pv 0) pa_nil)) pa_nil)))) (kx_tup K rfl (n := 3) (by rfl) (pgs_cons (pg_name (i := 2) nd rfl (Or.inl rfl)) (pgs_cons (pg_name (i := 3) nd rfl (Or.inr rfl)) (pgs_cons (pg_name (i := 4) nd rfl (Or.inr rfl)) pgs_nil)))))
    (pss_cons (ps_if (pt_cmpR (kx_eqU K rfl hr.units) (pv 2) pe_int (nomark _)) (pss_one (ps_ret (pe_lc (own := [("at", 5)]) (g := (gName 5)) (tt := tYes) rfl nd (pi_range1 (by rfl) T.n_range (pa_cons (pv 1) pa_nil)) (blkOk_by (own := [("at", 5)]) (N := N__law_column) (sc := defScope s__law_column) (by decide +kernel)) (fun _ _ _ _ _ => (pg_name (i := 5) nd rfl (by first | exact Or.inl rfl | exact Or.inr rfl))) (fun _ _ _ _ _ => pts_nil) (fun _ _ _ _ _ => (pe_tup (pa_cons (pv 3) (pa_cons (pv 4) pa_nil))))))) pss_nil)
    (pss_cons (ps_if (pt_cmpR (kx_eqU K rfl hr.units) (pv 2) pe_int (nomark _)) (pss_one (ps_ret (pe_lc (own := [("at", 5)]) (g := (gName 5)) (tt := tYes) rfl nd (pi_range1 (by rfl) T.n_range (pa_cons (pv 1) pa_nil)) (blkOk_by (own := [("at", 5)]) (N := N__law_column) (sc := defScope s__law_column) (by decide +kernel)) (fun _ _ _ _ _ => (pg_name (i := 5) nd rfl (by first | exact Or.inl rfl | exact Or.inr rfl))) (fun _ _ _ _ _ => pts_nil) (fun _ _ _ _ _ => (pe_tup (pa_cons (pv 5) (pa_cons (pe_ix (kx_ix K rfl hr.units) (pe_lst (pa_cons (pv 5) (pa_cons (pe_callTy cr_int1 (by rfl) T.n_int (by decide +kernel) (pa_cons (pe_cmpR (kx_eqU K rfl hr.units) (pv 5) (pv 3) (nomark _)) pa_nil)) (pa_cons (pv 4) pa_nil)))) (pe_op op_mod (pe_callTy cr_int1 (by rfl) T.n_int (by decide +kernel) (pa_cons (pv 3) pa_nil)) pe_int) (fun _ _ => rfl)) pa_nil))))))) pss_nil)
    (pss_cons (ps_if (pt_cmpR (kx_eqU K rfl hr.units) (pv 2) pe_int (nomark _)) (pss_one (ps_ret (pe_lc (own := [("at", 5)]) (g := (gName 5)) (tt := tYes) rfl nd (pi_range1 (by rfl) T.n_range (pa_cons (pv 1) pa_nil)) (blkOk_by (own := [("at", 5)]) (N := N__law_column) (sc := defScope s__law_column) (by decide +kernel)) (fun _ _ _ _ _ => (pg_name (i := 5) nd rfl (by first | exact Or.inl rfl | exact Or.inr rfl))) (fun _ _ _ _ _ => pts_nil) (fun _ _ _ _ _ => (pe_tup (pa_cons (pe_op op_mod (pe_callTy cr_int1 (by rfl) T.n_int (by decide +kernel) (pa_cons (pe_op op_addU (pv 5) (pv 3)) pa_nil)) (pv 1)) (pa_cons (pe_ix (kx_ix K rfl hr.units) (pe_lst (pa_cons (pv 4) (pa_cons (pv 5) pa_nil))) (pe_op op_odd2 (pe_callTy cr_int1 (by rfl) T.n_int (by decide +kernel) (pa_cons (pv 3) pa_nil)) pe_int) (fun _ _ => rfl)) pa_nil))))))) pss_nil)
    (pss_cons (ps_if (pt_cmpR (kx_eqU K rfl hr.units) (pv 2) pe_int (nomark _)) (pss_one (ps_ret (pe_lc (own := [("at", 5)]) (g := (gName 5)) (tt := tYes) rfl nd (pi_range1 (by rfl) T.n_range (pa_cons (pv 1) pa_nil)) (blkOk_by (own := [("at", 5)]) (N := N__law_column) (sc := defScope s__law_column) (by decide +kernel)) (fun _ _ _ _ _ => (pg_name (i := 5) nd rfl (by first | exact Or.inl rfl | exact Or.inr rfl))) (fun _ _ _ _ _ => pts_nil) (fun _ _ _ _ _ => (pe_tup (pa_cons (pe_callB (cr_mn2 rfl) (by rfl) T.n_min (by decide +kernel) (pa_cons (pe_op op_addU (pv 5) pe_int) (pa_cons (pe_op op_sub (pv 1) pe_int) pa_nil))) (pa_cons (pe_ix (kx_ix K rfl hr.units) (pe_lst (pa_cons (pv 4) (pa_cons (pe_callTy cr_int1 (by rfl) T.n_int (by decide +kernel) (pa_cons (pe_cmpR (kx_eqU K rfl hr.units) (pv 5) (pv 3) (nomark _)) pa_nil)) pa_nil))) (pe_op op_odd2 (pe_callTy cr_int1 (by rfl) T.n_int (by decide +kernel) (pa_cons (pv 3) pa_nil)) pe_int) (fun _ _ => rfl)) pa_nil))))))) pss_nil)
    (pss_one (ps_ret (pe_lc (own := [("at", 5)]) (g := (gName 5)) (tt := tYes) rfl nd (pi_range1 (by rfl) T.n_range (pa_cons (pv 1) pa_nil)) (blkOk_by (own := [("at", 5)]) (N := N__law_column) (sc := defScope s__law_column) (by decide +kernel)) (fun _ _ _ _ _ => (pg_name (i := 5) nd rfl (by first | exact Or.inl rfl | exact Or.inr rfl))) (fun _ _ _ _ _ => pts_nil) (fun _ _ _ _ _ => (pe_tup (pa_cons (kx_def K rfl C__law_toss (hr.mono (by decide)) rfl T.g__law_toss T.k__law_toss (pa_cons (pv 0) (pa_cons (pv 1) pa_nil))) (pa_cons (kx_def K rfl C__law_answer (hr.mono (by decide)) rfl T.g__law_answer T.k__law_answer (pa_cons (pv 0) pa_nil)) pa_nil))))))))))))) (fun ds m Q h => ?_)
  replace h := h.2
  clear nd
  obtain ⟨p, c, rest, n, k, rfl, rfl, hk, hn, k0, k25, q⟩ := h
  walk_at "s"
  refine ew_tup ?_
  walk_at "s"
  refine use_toss hk (by omega) (by omega) (by omega) fun way c1 hw k1 => ?_
  walk_at "s"
  refine use_toss k1 (by omega) (by omega) (by omega) fun goal c2 hg k2 => ?_
  walk_at "s"
  refine use_answer k2 (by omega) fun sh c3 hsh k3 => ?_
  walk_at "s"
  refine ⟨Nat.le_of_ble_eq_true rfl, gw_tup rfl ?_⟩
  walk_at "s"
  have fin : ∀ (r : List Step) (m' : Mem), r.length = (List.range k).length → (∀ (j : Nat) (s : Step), r[j]? = some s → s.1 < k ∧ AnsOk s.2) → (∃ c' : Cell, m' = (p, c') :: rest ∧ Kit (n + 5 + 4 * (List.range k).length) c') → Q (.lst (r.map stepD)) m' := by
    rintro r m' hr hs ⟨c', rfl, kc⟩
    rw [List.length_range] at hr kc
    refine q r c' ⟨hr, fun s hm => ?_⟩ (kc.up (by omega))
    obtain ⟨i, hi⟩ := List.getElem?_of_mem hm
    exact hs i s hi
  have step : ∀ (j : Nat) (z : Addr) (acc : List D) (g : Nat) (t : Option Int) (c'' : Cell), g < k → AnsOk t → Kit (n + 5 + 4 * (j + 1)) c'' → ∃ (s : Step) (m5 : Mem), D.tup [.int (g : Nat), ansD t] = stepD s ∧ (s.1 < k ∧ AnsOk s.2) ∧ (p, c'') :: rest ++ [(z, Cell.lst acc)] = m5 ++ [(z, .lst acc)] ∧ ∃ c' : Cell, m5 = (p, c') :: rest ∧ Kit (n + 5 + 4 * (j + 1)) c' := fun j z acc g t c'' hg ht hk => ⟨(g, t), (p, c'') :: rest, rfl, ⟨hg, ht⟩, rfl, c'', rfl, hk⟩
  refine sw_if ?_
  walk_at "s"
  refine iteD (fun h0 => ?_) (fun h0 => ?_)
  · walk_at "s"
    refine ew_lcD (α := Nat) stepD (fun _ (s : Step) => s.1 < k ∧ AnsOk s.2) (fun j m' => ∃ c' : Cell, m' = (p, c') :: rest ∧ Kit (n + 5 + 4 * j) c') (tame_name (by decide)) (iw_rngN ?_)
    walk_at "s"
    refine ⟨by omega, List.range k, _, rfl, by rw [List.length_range]; exact le_sz (by omega), ⟨c3, rfl, k3⟩, ?_, fin⟩
    rintro j x acc m' z hx ⟨c', rfl, kc⟩
    obtain ⟨hj, rfl⟩ := range_get hx
    walk_at "s"
    refine ⟨rfl, ?_⟩
    walk_at "s"
    refine ew_tup ?_
    walk_at "s"
    exact ⟨Nat.le_of_ble_eq_true rfl, step j z acc goal sh _ (by omega) hsh (kc.up (by omega))⟩
  · walk_at "s"
    refine sw_if ?_
    walk_at "s"
    refine iteD (fun h0 => ?_) (fun h0 => ?_)
    · refine sw_ret (ew_lcD (α := Nat) stepD (fun _ (s : Step) => s.1 < k ∧ AnsOk s.2) (fun j m' => ∃ c' : Cell, m' = (p, c') :: rest ∧ Kit (n + 5 + 4 * j) c') (tame_name (by decide)) (iw_rngN ?_))
      walk_at "s"
      refine ⟨by omega, List.range k, _, rfl, by rw [List.length_range]; exact le_sz (by omega), ⟨c3, rfl, k3⟩, ?_, fin⟩
      rintro j x acc m' z hx ⟨c', rfl, kc⟩
      obtain ⟨hj, rfl⟩ := range_get hx
      walk_at "s"
      refine ⟨rfl, ?_⟩
      walk_at "s"
      refine ew_tup ?_
      walk_at "s"
      refine ew_lst ?_
      walk_at "s"
      refine ⟨Nat.le_of_ble_eq_true rfl, ?_⟩
      walk_at "s"
      refine ow_ic (by decide) ?_
      have hq0 : 0 ≤ (goal : Int) % 3 := Int.emod_nonneg _ (by decide)
      have hq1 : (goal : Int) % 3 < 3 := Int.emod_lt_of_pos _ (by decide)
      generalize (goal : Int) % 3 = qq at hq0 hq1 ⊢
      rcases (by omega : qq = 0 ∨ qq = 1 ∨ qq = 2) with rfl | rfl | rfl
      · exact oi_L (d := .int (j : Nat)) rfl (by walk_at "s"; exact ⟨Nat.le_of_ble_eq_true rfl, step j z acc j (some (j : Nat)) _ hj (by unfold AnsOk; omega) (kc.up (by omega))⟩)
      · exact oi_L (d := .int (if decide ((j : Int) = (goal : Int)) = true then 1 else 0)) rfl (by walk_at "s"; exact ⟨Nat.le_of_ble_eq_true rfl, step j z acc j (some (if decide ((j : Int) = (goal : Int)) = true then 1 else 0)) _ hj (ans01 _) (kc.up (by omega))⟩)
      · exact oi_L (d := ansD sh) rfl (by walk_at "s"; exact ⟨Nat.le_of_ble_eq_true rfl, step j z acc j sh _ hj hsh (kc.up (by omega))⟩)
    · walk_at "s"
      refine sw_if ?_
      walk_at "s"
      refine iteD (fun h0 => ?_) (fun h0 => ?_)
      · refine sw_ret (ew_lcD (α := Nat) stepD (fun _ (s : Step) => s.1 < k ∧ AnsOk s.2) (fun j m' => ∃ c' : Cell, m' = (p, c') :: rest ∧ Kit (n + 5 + 4 * j) c') (tame_name (by decide)) (iw_rngN ?_))
        walk_at "s"
        refine ⟨by omega, List.range k, _, rfl, by rw [List.length_range]; exact le_sz (by omega), ⟨c3, rfl, k3⟩, ?_, fin⟩
        rintro j x acc m' z hx ⟨c', rfl, kc⟩
        obtain ⟨hj, rfl⟩ := range_get hx
        walk_at "s"
        refine ⟨rfl, ?_⟩
        walk_at "s"
        refine ew_tup ?_
        walk_at "s"
        refine ow_ic (by omega) ?_
        walk_at "s"
        refine ew_lst ?_
        walk_at "s"
        refine ⟨Nat.le_of_ble_eq_true rfl, ?_⟩
        walk_at "s"
        have hm0 : 0 ≤ ((j : Int) + (goal : Int)) % (k : Int) := Int.emod_nonneg _ (by omega)
        have hm1 : ((j : Int) + (goal : Int)) % (k : Int) < k := Int.emod_lt_of_pos _ (by omega)
        generalize ((j : Int) + (goal : Int)) % (k : Int) = gg at hm0 hm1 ⊢
        obtain ⟨g2, rfl⟩ : ∃ g2 : Nat, gg = g2 := ⟨gg.toNat, by omega⟩
        have hq1 : goal % 2 < 2 := Nat.mod_lt _ (by decide)
        generalize goal % 2 = qq at hq1 ⊢
        rcases (by omega : qq = 0 ∨ qq = 1) with rfl | rfl
        · exact oi_L (d := ansD sh) rfl (by walk_at "s"; exact ⟨Nat.le_of_ble_eq_true rfl, step j z acc g2 sh _ (by omega) hsh (kc.up (by omega))⟩)
        · exact oi_L (d := .int (j : Nat)) rfl (by walk_at "s"; exact ⟨Nat.le_of_ble_eq_true rfl, step j z acc g2 (some (j : Nat)) _ (by omega) (by unfold AnsOk; omega) (kc.up (by omega))⟩)
      · walk_at "s"
        refine sw_if ?_
        walk_at "s"
        refine iteD (fun h0 => ?_) (fun h0 => ?_)
        · refine sw_ret (ew_lcD (α := Nat) stepD (fun _ (s : Step) => s.1 < k ∧ AnsOk s.2) (fun j m' => ∃ c' : Cell, m' = (p, c') :: rest ∧ Kit (n + 5 + 4 * j) c') (tame_name (by decide)) (iw_rngN ?_))
          walk_at "s"
          refine ⟨by omega, List.range k, _, rfl, by rw [List.length_range]; exact le_sz (by omega), ⟨c3, rfl, k3⟩, ?_, fin⟩
          rintro j x acc m' z hx ⟨c', rfl, kc⟩
          obtain ⟨hj, rfl⟩ := range_get hx
          walk_at "s"
          refine ⟨rfl, ?_⟩
          walk_at "s"
          refine ew_tup ?_
          walk_at "s"
          refine ew_lst ?_
          walk_at "s"
          refine ⟨Nat.le_of_ble_eq_true rfl, ?_⟩
          walk_at "s"
          have hmn : ∃ g2 : Nat, (if (k : Int) - 1 < (j : Int) + 1 then (k : Int) - 1 else (j : Int) + 1) = (g2 : Int) ∧ g2 < k := by
            by_cases e : (k : Int) - 1 < (j : Int) + 1
            · rw [if_pos e]
              exact ⟨k - 1, by omega, by omega⟩
            · rw [if_neg e]
              exact ⟨j + 1, by omega, by omega⟩
          obtain ⟨g2, eg, hg2⟩ := hmn
          rw [eg]
          have hq1 : goal % 2 < 2 := Nat.mod_lt _ (by decide)
          generalize goal % 2 = qq at hq1 ⊢
          rcases (by omega : qq = 0 ∨ qq = 1) with rfl | rfl
          · exact oi_L (d := ansD sh) rfl (by walk_at "s"; exact ⟨Nat.le_of_ble_eq_true rfl, step j z acc g2 sh _ hg2 hsh (kc.up (by omega))⟩)
          · exact oi_L (d := .int (if decide ((j : Int) = (goal : Int)) = true then 1 else 0)) rfl (by walk_at "s"; exact ⟨Nat.le_of_ble_eq_true rfl, step j z acc g2 (some (if decide ((j : Int) = (goal : Int)) = true then 1 else 0)) _ hg2 (ans01 _) (kc.up (by omega))⟩)
        · walk_at "s"
          refine ew_lcD (α := Nat) stepD (fun _ (s : Step) => s.1 < k ∧ AnsOk s.2) (fun j m' => ∃ c' : Cell, m' = (p, c') :: rest ∧ Kit (n + 5 + 4 * j) c') (tame_name (by decide)) (iw_rngN ?_)
          walk_at "s"
          refine ⟨by omega, List.range k, _, rfl, by rw [List.length_range]; exact le_sz (by omega), ⟨c3, rfl, k3⟩, ?_, fin⟩
          rintro j x acc m' z hx ⟨c', rfl, kc⟩
          obtain ⟨hj, rfl⟩ := range_get hx
          walk_at "s"
          refine ⟨rfl, ?_⟩
          walk_at "s"
          refine ew_tup ?_
          walk_at "s"
          refine use_toss kc (by omega) (by omega) (by omega) fun r4 c4 h4 k4 => ?_
          walk_at "s"
          refine use_answer k4 (by omega) fun t5 c5 h5 k5 => ?_
          walk_at "s"
          exact ⟨Nat.le_of_ble_eq_true rfl, step j z acc r4 t5 _ (by omega) h5 (k5.up (by omega))⟩

end
end DL

set_option Elab.async false
set_option linter.all false
set_option maxRecDepth 100000
set_option maxHeartbeats 4000000
set_option autoImplicit false
namespace DL
open PySem PySem.Spec PyProof.Rows L2
local macro_rules | `(tactic| walk_at "m") => `(tactic| first
  | with_reducible exact MAt.last | with_reducible exact MUp.last
  | exact MAt.zero | exact MUp.zero | exact MAt.last | exact MUp.last
  | (apply MAt.cons; walk_at "m") | (apply MUp.cons; walk_at "m")
  | (apply MAt.app; walk_at "m") | (apply MUp.app; walk_at "m")
  | assumption)
local macro_rules | `(tactic| walk_at "s1") => `(tactic| with_reducible first
  | refine sw_seq ?_ | refine sw_next ?_ | refine sw_ret ?_ | refine sw_retN ?_ | refine sw_asg ?_ | refine sw_asgG ?_ | refine sw_drop ?_ | refine sw_break ?_ | refine sw_cont ?_ | refine sw_par ?_ | refine sw_par3 ?_
  | refine tw_test ?_ | refine tw_B ?_ | refine tw_and ?_ | refine tw_or ?_ | refine tw_not ?_ | refine tw_yes ?_
  | refine ew_op ?_ | refine ew_un ?_ | refine ew_int ?_ | refine ew_non ?_ | refine ew_bl ?_ | refine ew_str ?_ | refine ew_ty ?_ | refine ew_ref ?_ | refine ew_cb ?_ | refine ew_if ?_ | refine ew_andV ?_ | refine ew_orV ?_ | refine ew_notV ?_ | refine ew_chain ?_ | refine ew_sl ?_ | refine pw_no ?_ | refine pw_part ?_
  | refine ew_call0 ?_ | refine ew_kw0 ?_
  | refine aw_nil ?_ | refine aw_cons ?_ | refine ew_bm ?_ | refine ew_bm0 ?_ | refine gs_L ?_
  | refine gs_nil ?_ | refine gs_cons ?_ | refine gw_name ?_
  | refine ow_addI ?_ | refine ow_odd ?_ | refine ow_i0 ?_ | refine ow_b0 ?_ | refine oq_eqI ?_ | refine oq_neI ?_ | refine oq_eqS ?_ | refine oq_neS ?_ | refine ow_isN ?_ | refine ow_notN ?_ | refine uw_neg ?_ | refine cw_int ?_ | refine cw_intB ?_ | refine cw_abs ?_ | refine cw_mx2 ?_ | refine cw_mn2 ?_ | refine cw_lenL ?_ | refine cw_lenR ?_ | refine cw_listL ?_ | refine cw_listT ?_ | refine lw_L ?_ | refine ew_revL ?_)
local macro_rules | `(tactic| walk_at "s2") => `(tactic| first
  | ((with_reducible refine' ew_var ?hv ?_); (case hv => exact rfl))
  | ((with_reducible refine' oi_M ?hm ?hi ?_); (case hm => walk_at "m"); (case hi => exact rfl))
  | ((with_reducible refine' ow_ixT ?hi ?_); (case hi => exact rfl))
  | ((with_reducible refine' cl_M ?hm ?_); (case hm => walk_at "m"))
  | ((with_reducible refine' ci_M ?hm ?_); (case hm => walk_at "m"))
  | ((with_reducible refine' ma_app ?hm ?ll ?_); (case hm => walk_at "m"); (case ll => walk_at "l"))
  | ((with_reducible refine' And.intro (ty_A ?hm) ?_); (case hm => walk_at "m"))
  | (with_reducible refine' Exists.intro _ (And.intro ?he ?_); (case he => exact rfl))
  | (with_reducible refine' Exists.intro _ (Exists.intro _ (And.intro ?he ?_)); (case he => exact rfl))
  | (with_reducible refine' Exists.intro _ (Exists.intro _ (Exists.intro _ (And.intro ?he ?_))); (case he => exact rfl))
  | ((with_reducible refine' Exists.intro _ (Exists.intro _ (Exists.intro _ (Exists.intro _ (Exists.intro _ (And.intro ?e1 (And.intro ?e2 (And.intro ?hm (And.intro ?hi ?_))))))))); (case e1 => exact rfl); (case e2 => exact rfl); (case hm => walk_at "m"); (case hi => exact rfl)))
local macro_rules | `(tactic| walk_at "l") => `(tactic| first | assumption | exact lt_sz (by omega) | exact lt_sz (by simp only [List.length_map, List.length_append, List.length_cons, List.length_nil, List.length_take, List.length_drop, List.length_range]; omega))
local macro_rules | `(tactic| walk_at "s") => `(tactic| repeat (first | walk_at "s1" | walk_at "s2"))
local macro_rules | `(tactic| walk_at "sx") => `(tactic| with_reducible first
  | refine swx_of ?_ | refine swx_seq ?_ | refine swx_drop ?_ | refine swx_asg ?_ | refine swx_ret ?_ | refine ewx_fun ?_ | refine ewx_meth ?_ | refine ewx_make ?_ | refine ewx_sub ?_)
local macro_rules | `(tactic| walk_at "s") => `(tactic| repeat (first | walk_at "s1" | walk_at "s2" | walk_at "sx"))
local macro_rules | `(tactic| walk_at "g1") => `(tactic| with_reducible first
  | refine ew_tup2 ?_ | refine ew_tup3 ?_ | refine ew_tup4 ?_ | refine ew_fldI ?_ | refine sw_fldA ?_ | refine ew_dget1 ?_ | refine ew_dget2 ?_ | refine ow_isN ?_)
local macro_rules | `(tactic| walk_at "g2") => `(tactic| first
  | ((with_reducible refine' gw_tup ?e ?_); (case e => exact rfl))
  | ((with_reducible refine' oi_L ?e ?_); (case e => exact rfl))
  | ((refine' Exists.intro _ (And.intro ?cl (And.intro ?na (And.intro ?e ?_)))); (case cl => assumption); (case na => assumption); (case e => exact rfl))
  | ((refine' Exists.intro _ (Exists.intro _ (Exists.intro _ (Exists.intro _ (And.intro ?e (And.intro ?hm (And.intro ?cl (And.intro ?na (And.intro ?l ?_))))))))); (case e => exact rfl); (case hm => walk_at "m"); (case cl => assumption); (case na => assumption); (case l => exact Nat.le_of_ble_eq_true rfl)))
local macro_rules | `(tactic| walk_at "g") => `(tactic| repeat (first | walk_at "s1" | walk_at "s2" | walk_at "sx" | walk_at "g1" | walk_at "g2"))

section
variable {P : Program} {w : World} {K : PySem.W.Frag} {mg : Str → Option Value} {base : Heap} {a : Ads}
theorem getD_mem {α : Type} {l : List α} {i : Nat} {d : α} (h : i < l.length) : l.getD i d ∈ l := by
  rw [List.getD_eq_getElem?_getD, List.getElem?_eq_getElem h]
  exact List.getElem_mem h
/-- a drawn table: so many states, so many calls -/
structure Grid (n k : Nat) (T : Tab) : Prop where
  ok : TabOk T
  len : T.length = n
  wid : ∀ r ∈ T, r.length = k
  ans : ∀ r ∈ T, ∀ s ∈ r, AnsOk s.2
theorem grid_of {k n : Nat} {cols : List (List Step)} (hc : cols.length = k) (n0 : 0 < n) (hcol : ∀ c ∈ cols, Col n c) : Grid n k ((List.range n).map fun s => cols.map fun c => c.getD s (0, none)) := by
  refine ⟨⟨by simpa using n0, fun r hr s hs => ?_⟩, by simp, fun r hr => ?_, fun r hr s hs => ?_⟩
  · obtain ⟨x, hx, rfl⟩ := List.mem_map.mp hr
    obtain ⟨c, hc, rfl⟩ := List.mem_map.mp hs
    have h1 := hcol c hc
    have := (h1.ok _ (getD_mem (d := (0, none)) (i := x) (by rw [h1.len]; exact List.mem_range.mp hx))).1
    simpa using this
  · obtain ⟨x, hx, rfl⟩ := List.mem_map.mp hr
    rw [List.length_map, hc]
  · obtain ⟨x, hx, rfl⟩ := List.mem_map.mp hr
    obtain ⟨c, hc, rfl⟩ := List.mem_map.mp hs
    have h1 := hcol c hc
    exact (h1.ok _ (getD_mem (d := (0, none)) (i := x) (by rw [h1.len]; exact List.mem_range.mp hx))).2
def F_grid : FS := fun ds m Q => ∃ (p : Addr) (c : Cell) (rest : Mem) (n k w : Nat), ds = [.adr p, .int (k : Nat), .int (w : Nat)] ∧ m = (p, c) :: rest ∧ Kit n c ∧ n + 3000 < 2 ^ 40 ∧ 0 < k ∧ k ≤ 25 ∧ w ≤ 14 ∧
  ∀ (T : Tab) (c' : Cell), Grid k w T → Kit (n + 3000) c' → Q (tabD T) ((p, c') :: rest)
theorem use_column {p : Addr} {c : Cell} {rest : Mem} {n k : Nat} {Q : D → Mem → Prop} (hk : Kit n c) (hn : n + 200 < 2 ^ 40) (k0 : 0 < k) (k1 : k ≤ 25) (q : ∀ (r : List Step) (c' : Cell), Col k r → Kit (n + 200) c' → Q (rowD r) ((p, c') :: rest)) : FSn 2 F_column [.adr p, .int (k : Nat)] ((p, c) :: rest) Q :=
  ⟨rfl, p, c, rest, n, k, rfl, rfl, hk, hn, k0, k1, q⟩
theorem ok__law_grid (T : Txt K mg a) : Def P w K mg base 5 a.f__law_grid ["kit", "many", "count"] (FSn 3 (F_grid)) := by
  have nd := sc__law_grid.nd
  have C__law_column := ok__law_column (P := P) (w := w) (base := base) T
  refine defOk T.h__law_grid sc__law_grid (fun _ _ _ h => h.1) (fun cdv A outer s H E hr => by exact (pss_cons (ps_set (i := 3) nd rfl (Or.inr rfl) (pe_lc (own := [("turn", 4)]) (g := (gName 4)) (tt := tYes) rfl nd (pi_range1 (by rfl) T.n_range (pa_cons (pv 2) pa_nil)) (blkOk_by (own := [("turn", 4)]) (N := N__law_grid) (sc := defScope s__law_grid) (by decide +kernel)) (fun _ _ _ _ _ => (pg_name (i := 4) nd rfl (by first | exact Or.inl rfl | exact Or.inr rfl))) (fun _ _ _ _ _ => pts_nil) (fun _ _ _ _ _ => (kx_def K rfl C__law_column (hr.mono (by decide)) rfl T.g__law_column T.k__law_column (pa_cons (pv 0) (pa_cons (pv 1) pa_nil))))))
    (pss_one (ps_ret (pe_lc (own := [("at", 5)]) (g := (gName 5)) (tt := tYes) rfl nd (pi_range1 (by rfl) T.n_range (pa_cons (pv 1) pa_nil)) (blkOk_by (own := [("at", 5)]) (N := N__law_grid) (sc := defScope s__law_grid) (by decide +kernel)) (fun _ _ _ _ _ => (pg_name (i := 5) nd rfl (by first | exact Or.inl rfl | exact Or.inr rfl))) (fun _ _ _ _ _ => pts_nil) (fun _ _ _ _ _ => (pe_lc (own := [("column", 6)]) (g := (gName 6)) (tt := tYes) rfl nd (kx_pi K rfl (pv 3)) (by exact blkIn (own := [("column", 6)]) (N := N__law_grid) (sc0 := defScope s__law_grid) (by decide +kernel)) (fun _ _ _ _ _ => (pg_name (i := 6) nd rfl (by first | exact Or.inl rfl | exact Or.inr rfl))) (fun _ _ _ _ _ => pts_nil) (fun _ _ _ _ _ => (pe_ix (kx_ix K rfl hr.units) (pv 6) (pv 5) (fun _ _ => rfl)))))))))) (fun ds m Q h => ?_)
  replace h := h.2
  clear nd
  obtain ⟨p, c, rest, n, k, w, rfl, rfl, hk, hn, k0, k25, w14, q⟩ := h
  walk_at "s"
  refine ew_lcD (α := Nat) rowD (fun _ r => Col k r) (fun j m' => ∃ c' : Cell, m' = (p, c') :: rest ∧ Kit (n + 200 * j) c') (tame_name (by decide)) (iw_rngN ?_)
  walk_at "s"
  refine ⟨by omega, List.range w, _, rfl, by rw [List.length_range]; exact le_sz (by omega), ⟨c, rfl, hk⟩, ?_, ?_⟩
  · rintro j x acc m' z hx ⟨c', rfl, kc⟩
    obtain ⟨hj, rfl⟩ := range_get hx
    walk_at "s"
    refine ⟨rfl, ?_⟩
    walk_at "s"
    refine use_column kc (by omega) (by omega) (by omega) fun r c4 hr k4 => ?_
    exact ⟨r, (p, c4) :: rest, rfl, hr, rfl, c4, rfl, k4⟩
  · rintro cols m' hl hcol ⟨c4, rfl, k4⟩
    rw [List.length_range] at hl k4
    have hcol' : ∀ c ∈ cols, Col k c := fun c hc => by
      obtain ⟨i, hi⟩ := List.getElem?_of_mem hc
      exact hcol i c hi
    walk_at "s"
    refine ew_lcF (tame_name (by decide)) (iw_rngN ?_)
    walk_at "s"
    refine ⟨by omega, Nat, List.range k, natD, fun s => rowD (cols.map fun c => c.getD s (0, none)), rfl, by rw [List.length_range]; exact le_sz (by omega), ?_, ?_⟩
    · intro s acc z hs
      have hs : s < k := List.mem_range.mp hs
      walk_at "s"
      refine ⟨rfl, ?_⟩
      walk_at "s"
      refine ew_lcF (tame_name (by decide)) (iw_any ?_)
      walk_at "s"
      refine ⟨_, .inl rfl, List Step, cols, rowD, fun c => stepD (c.getD s (0, none)), rfl, le_sz (by omega), ?_, ?_⟩
      · intro c acc2 z2 hc
        have hcl := (hcol' c hc).len
        walk_at "s"
        refine ⟨rfl, ?_⟩
        walk_at "s"
        refine oi_L (at_map (f := stepD) (List.getElem?_eq_getElem (by omega))) ?_
        refine ⟨?_, rfl⟩
        show _ = stepD (c.getD s (0, none))
        rw [List.getD_eq_getElem?_getD, List.getElem?_eq_getElem (by omega)]
        rfl
      · refine ⟨?_, rfl⟩
        show D.lst _ = D.lst _
        rw [List.map_map]
        rfl
    · have gr := grid_of hl k0 hcol'
      have e : D.lst ((List.range k).map fun s => rowD (cols.map fun c => c.getD s (0, none))) = tabD ((List.range k).map fun s => cols.map fun c => c.getD s (0, none)) := by
        show D.lst _ = D.lst _
        rw [List.map_map]
        rfl
      have q2 := q _ c4 gr (k4.up (by omega))
      rw [← e] at q2
      exact q2

end
end DL

set_option Elab.async false
set_option linter.all false
set_option maxRecDepth 100000
set_option maxHeartbeats 4000000
set_option autoImplicit false
namespace DL
open PySem PySem.Spec PyProof.Rows L2
local macro_rules | `(tactic| walk_at "m") => `(tactic| first
  | with_reducible exact MAt.last | with_reducible exact MUp.last
  | exact MAt.zero | exact MUp.zero | exact MAt.last | exact MUp.last
  | (apply MAt.cons; walk_at "m") | (apply MUp.cons; walk_at "m")
  | (apply MAt.app; walk_at "m") | (apply MUp.app; walk_at "m")
  | assumption)
local macro_rules | `(tactic| walk_at "s1") => `(tactic| with_reducible first
  | refine sw_seq ?_ | refine sw_next ?_ | refine sw_ret ?_ | refine sw_retN ?_ | refine sw_asg ?_ | refine sw_asgG ?_ | refine sw_drop ?_ | refine sw_break ?_ | refine sw_cont ?_ | refine sw_par ?_ | refine sw_par3 ?_
  | refine tw_test ?_ | refine tw_B ?_ | refine tw_and ?_ | refine tw_or ?_ | refine tw_not ?_ | refine tw_yes ?_
  | refine ew_op ?_ | refine ew_un ?_ | refine ew_int ?_ | refine ew_non ?_ | refine ew_bl ?_ | refine ew_str ?_ | refine ew_ty ?_ | refine ew_ref ?_ | refine ew_cb ?_ | refine ew_if ?_ | refine ew_andV ?_ | refine ew_orV ?_ | refine ew_notV ?_ | refine ew_chain ?_ | refine ew_sl ?_ | refine pw_no ?_ | refine pw_part ?_
  | refine ew_call0 ?_ | refine ew_kw0 ?_
  | refine aw_nil ?_ | refine aw_cons ?_ | refine ew_bm ?_ | refine ew_bm0 ?_ | refine gs_L ?_
  | refine gs_nil ?_ | refine gs_cons ?_ | refine gw_name ?_
  | refine ow_addI ?_ | refine ow_odd ?_ | refine ow_i0 ?_ | refine ow_b0 ?_ | refine oq_eqI ?_ | refine oq_neI ?_ | refine oq_eqS ?_ | refine oq_neS ?_ | refine ow_isN ?_ | refine ow_notN ?_ | refine uw_neg ?_ | refine cw_int ?_ | refine cw_intB ?_ | refine cw_abs ?_ | refine cw_mx2 ?_ | refine cw_mn2 ?_ | refine cw_lenL ?_ | refine cw_lenR ?_ | refine cw_listL ?_ | refine cw_listT ?_ | refine lw_L ?_ | refine ew_revL ?_)
local macro_rules | `(tactic| walk_at "s2") => `(tactic| first
  | ((with_reducible refine' ew_var ?hv ?_); (case hv => exact rfl))
  | ((with_reducible refine' oi_M ?hm ?hi ?_); (case hm => walk_at "m"); (case hi => exact rfl))
  | ((with_reducible refine' ow_ixT ?hi ?_); (case hi => exact rfl))
  | ((with_reducible refine' cl_M ?hm ?_); (case hm => walk_at "m"))
  | ((with_reducible refine' ci_M ?hm ?_); (case hm => walk_at "m"))
  | ((with_reducible refine' ma_app ?hm ?ll ?_); (case hm => walk_at "m"); (case ll => walk_at "l"))
  | ((with_reducible refine' And.intro (ty_A ?hm) ?_); (case hm => walk_at "m"))
  | (with_reducible refine' Exists.intro _ (And.intro ?he ?_); (case he => exact rfl))
  | (with_reducible refine' Exists.intro _ (Exists.intro _ (And.intro ?he ?_)); (case he => exact rfl))
  | (with_reducible refine' Exists.intro _ (Exists.intro _ (Exists.intro _ (And.intro ?he ?_))); (case he => exact rfl))
  | ((with_reducible refine' Exists.intro _ (Exists.intro _ (Exists.intro _ (Exists.intro _ (Exists.intro _ (And.intro ?e1 (And.intro ?e2 (And.intro ?hm (And.intro ?hi ?_))))))))); (case e1 => exact rfl); (case e2 => exact rfl); (case hm => walk_at "m"); (case hi => exact rfl)))
local macro_rules | `(tactic| walk_at "l") => `(tactic| first | assumption | exact lt_sz (by omega) | exact lt_sz (by simp only [List.length_map, List.length_append, List.length_cons, List.length_nil, List.length_take, List.length_drop, List.length_range]; omega))
local macro_rules | `(tactic| walk_at "s") => `(tactic| repeat (first | walk_at "s1" | walk_at "s2"))
local macro_rules | `(tactic| walk_at "sx") => `(tactic| with_reducible first
  | refine swx_of ?_ | refine swx_seq ?_ | refine swx_drop ?_ | refine swx_asg ?_ | refine swx_ret ?_ | refine ewx_fun ?_ | refine ewx_meth ?_ | refine ewx_make ?_ | refine ewx_sub ?_)
local macro_rules | `(tactic| walk_at "s") => `(tactic| repeat (first | walk_at "s1" | walk_at "s2" | walk_at "sx"))
local macro_rules | `(tactic| walk_at "g1") => `(tactic| with_reducible first
  | refine ew_tup2 ?_ | refine ew_tup3 ?_ | refine ew_tup4 ?_ | refine ew_fldI ?_ | refine sw_fldA ?_ | refine ew_dget1 ?_ | refine ew_dget2 ?_ | refine ow_isN ?_)
local macro_rules | `(tactic| walk_at "g2") => `(tactic| first
  | ((with_reducible refine' gw_tup ?e ?_); (case e => exact rfl))
  | ((with_reducible refine' oi_L ?e ?_); (case e => exact rfl))
  | ((refine' Exists.intro _ (And.intro ?cl (And.intro ?na (And.intro ?e ?_)))); (case cl => assumption); (case na => assumption); (case e => exact rfl))
  | ((refine' Exists.intro _ (Exists.intro _ (Exists.intro _ (Exists.intro _ (And.intro ?e (And.intro ?hm (And.intro ?cl (And.intro ?na (And.intro ?l ?_))))))))); (case e => exact rfl); (case hm => walk_at "m"); (case cl => assumption); (case na => assumption); (case l => exact Nat.le_of_ble_eq_true rfl)))
local macro_rules | `(tactic| walk_at "g") => `(tactic| repeat (first | walk_at "s1" | walk_at "s2" | walk_at "sx" | walk_at "g1" | walk_at "g2"))

section
variable {P : Program} {w : World} {K : PySem.W.Frag} {mg : Str → Option Value} {base : Heap} {a : Ads}
theorem ext_app (o a b : List Nat) : ext o (a ++ b) = ext (ext o a) b := by
  unfold ext
  rw [List.foldl_append]
theorem idx_pre {o O : List Nat} {g : Nat} (h : o <+: O) (hg : g ∈ o) : O.idxOf g = o.idxOf g := by
  obtain ⟨X, rfl⟩ := h
  rw [List.idxOf_append, if_pos hg]
def rowN (T : Tab) (s : Nat) : List Step := (T.getD s []).map fun p => ((fin T).idxOf p.1, p.2)
theorem normT_rows (T : Tab) : normT T = (fin T).map (rowN T) := rfl
def F_walked : FS := fun ds m Q => ∃ T : Tab, ds = [tabD T] ∧ TabOk T ∧ T.length ≤ 1000 ∧ (∀ r ∈ T, r.length ≤ 1000) ∧ Q (tabD (normT T)) m
theorem ok__law_walked (T : Txt K mg a) : Def P w K mg base 2 a.f__law_walked ["grid"] (FSn 1 (F_walked)) := by
  have nd := sc__law_walked.nd
  refine defOk T.h__law_walked sc__law_walked (fun _ _ _ h => h.1) (fun cdv A outer s H E hr => by exact (pss_cons (ps_par (i := 1) (j := 2) rfl nd rfl rfl (by decide) rfl rfl (pa_cons (pe_lst (pa_cons pe_int pa_nil)) (pa_cons (pe_lst pa_nil) pa_nil)) (by rfl))
    (pss_cons (ps_for PassesOwn.never rfl (pi_range1 (by rfl) T.n_range (pa_cons (pe_callB (kx_len K rfl) (by rfl) T.n_len (by decide +kernel) (pa_cons (pv 0) pa_nil)) pa_nil)) (pg_name (i := 3) nd rfl (Or.inl rfl)) (pss_one (ps_if (pt_cmpR op_lt (pv 3) (pe_callB (kx_len K rfl) (by rfl) T.n_len (by decide +kernel) (pa_cons (pv 1) pa_nil)) (nomark _)) (pss_cons (ps_set (i := 4) nd rfl (Or.inl rfl) (pe_lst pa_nil))
    (pss_cons (ps_for PassesOwn.never rfl (kx_pi K rfl (pe_ix (kx_ix K rfl hr.units) (pv 0) (pe_ix (kx_ix K rfl hr.units) (pv 1) (pv 3) (fun _ _ => rfl)) (fun _ _ => rfl))) (kx_tup K rfl (n := 2) (by rfl) (pgs_cons (pg_name (i := 5) nd rfl (Or.inl rfl)) (pgs_cons (pg_name (i := 6) nd rfl (Or.inl rfl)) pgs_nil))) (pss_cons (ps_if (pt_cmpR (kx_notIn K rfl P w rfl rfl hr.units) (pv 5) (pv 1) (by with_unfolding_all rfl)) (pss_one (ps_expr (kx_bm K rfl PySem.F.plainAttrs_list PySem.F.slot_list_append PySem.F.type_list_append mt_append (pv 1) (pa_cons (pv 5) pa_nil)))) pss_nil)
    (pss_one (ps_expr (kx_bm K rfl PySem.F.plainAttrs_list PySem.F.slot_list_append PySem.F.type_list_append mt_append (pv 4) (pa_cons (pe_tup (pa_cons (kx_bm K rfl PySem.F.plainAttrs_list PySem.F.slot_list_index PySem.F.type_list_index (kx_index K rfl (h65 hr)) (pv 1) (pa_cons (pv 5) pa_nil)) (pa_cons (pv 6) pa_nil))) pa_nil))))))
    (pss_one (ps_expr (kx_bm K rfl PySem.F.plainAttrs_list PySem.F.slot_list_append PySem.F.type_list_append mt_append (pv 2) (pa_cons (pv 4) pa_nil)))))) pss_nil)))
    (pss_one (ps_ret (pv 2)))))) (fun ds m Q h => ?_)
  replace h := h.2
  clear nd
  obtain ⟨T, rfl, ok, hT, hR, q⟩ := h
  refine sw_forget ?_
  walk_at "s"
  refine ew_lstM ?_
  walk_at "s"
  refine ⟨Nat.le_of_ble_eq_true rfl, fun z1 => ?_⟩
  walk_at "s"
  refine ew_lstM ?_
  walk_at "s"
  refine ⟨Nat.le_of_ble_eq_true rfl, fun z2 => ?_⟩
  walk_at "s"
  refine sw_forN ?_
  walk_at "s"
  rw [List.length_map]
  refine ⟨by omega, fun j δ' m' => ∃ x3 x4 x5 x6 : Option D, δ' = [some (tabD T), some (.adr z1), some (.adr z2), x3, x4, x5, x6] ∧ m' = m ++ [(z1, .lst ((ordT T j).map natD))] ++ [(z2, .lst (((ordT T j).take j).map fun s => rowD (rowN T s)))], ?_, ?_, ?_⟩
  · exact ⟨_, _, _, _, rfl, rfl⟩
  · rintro j δ' m' hj ⟨x3, x4, x5, x6, rfl, rfl⟩
    walk_at "s"
    refine sw_if ?_
    walk_at "s"
    rw [List.length_map]
    have hl := ordT_len ok j
    refine iteD (fun hc => ?_) (fun hc => ?_)
    · have hc : j < (ordT T j).length := by omega
      have hs : (ordT T j)[j]? = some (ordT T j)[j] := List.getElem?_eq_getElem hc
      have hsl : (ordT T j)[j] < T.length := ordT_lt ok j _ (List.getElem_mem hc)
      have hr : T[(ordT T j)[j]]? = some T[(ordT T j)[j]] := List.getElem?_eq_getElem hsl
      walk_at "s"
      refine ew_lstM ?_
      walk_at "s"
      refine ⟨Nat.le_of_ble_eq_true rfl, fun z3 => ?_⟩
      walk_at "s"
      refine sw_forX (iw_any ?_)
      walk_at "s"
      refine oi_M (by walk_at "m") (at_map (f := natD) hs) ?_
      refine oi_L (at_map (f := rowD) hr) ?_
      have e1 : ordT T (j + 1) = ext (ordT T j) ((T[(ordT T j)[j]]).map (·.1)) := by
        rw [ordT, if_pos hc, List.getD_eq_getElem?_getD, hs]
        unfold goals
        rw [List.getD_eq_getElem?_getD, Option.getD_some, hr]
        rfl
      have hrl := hR _ (List.getElem_mem hsl)
      have hrow : rowN T (ordT T j)[j] = (T[(ordT T j)[j]]).map fun p => ((fin T).idxOf p.1, p.2) := by
        unfold rowN
        rw [List.getD_eq_getElem?_getD, hr]
        rfl
      generalize hg : T[(ordT T j)[j]] = row at hr e1 hrl hrow ⊢
      have hpre : ∀ i, ext (ordT T j) ((row.take i).map (·.1)) <+: fin T := fun i => by
        have h1 : ext (ordT T j) ((row.take i).map (·.1)) <+: ordT T (j + 1) := by
          rw [e1]
          conv => rhs; rw [← List.take_append_drop i row, List.map_append, ext_app]
          exact ext_pre _ _
        exact h1.trans (fin_pre (by omega))
      refine ⟨_, .inl rfl, Step, row, stepD, rfl, fun i δ' m' => ∃ x5 x6 : Option D, δ' = [some (tabD T), some (.adr z1), some (.adr z2), some (.int (j : Nat)), some (.adr z3), x5, x6] ∧ m' = m ++ [(z1, .lst ((ext (ordT T j) ((row.take i).map (·.1))).map natD))] ++ [(z2, .lst (((ordT T j).take j).map fun s => rowD (rowN T s)))] ++ [(z3, .lst ((row.take i).map fun p => stepD ((fin T).idxOf p.1, p.2)))], ?_, ?_, ?_⟩
      · exact ⟨_, _, rfl, rfl⟩
      · rintro i ⟨g, t⟩ δ' m' hi ⟨x5, x6, rfl, rfl⟩
        have hil := (List.getElem?_eq_some_iff.mp hi).1
        have et : row.take (i + 1) = row.take i ++ [(g, t)] := by rw [List.take_add_one, hi]; rfl
        have et2 : (row.take (i + 1)).map (·.1) = (row.take i).map (·.1) ++ [g] := by rw [et, List.map_append]; rfl
        have hlen := nd_le T.length (ext (ordT T j) ((row.take i).map (·.1))) (ext_nd _ _ (ordT_nd T j)) fun x hx => fin_lt ok ((hpre i).subset hx)
        have hgm : g ∈ ext (ordT T j) ((row.take (i + 1)).map (·.1)) := (ext_mem _ _).mpr (.inr (by rw [et2]; simp))
        have hix := idx_pre (hpre (i + 1)) hgm
        refine gw_tup rfl ?_
        walk_at "s"
        refine sw_ifJ (fun δ' m' => δ' = [some (tabD T), some (.adr z1), some (.adr z2), some (.int (j : Nat)), some (.adr z3), some (.int (g : Nat)), some (ansD t)] ∧ m' = m ++ [(z1, .lst ((ext (ordT T j) ((row.take (i + 1)).map (·.1))).map natD))] ++ [(z2, .lst (((ordT T j).take j).map fun s => rowD (rowN T s)))] ++ [(z3, .lst ((row.take i).map fun p => stepD ((fin T).idxOf p.1, p.2)))]) ?_ ?_
        · walk_at "s"
          refine nin_nM (by walk_at "m") ?_
          walk_at "s"
          refine iteN (fun hn => ?_) (fun hn => ?_)
          · walk_at "s"
            refine ⟨rfl, ?_⟩
            rw [et2, ext_snoc, if_neg hn, List.map_append]
            rfl
          · walk_at "s"
            refine ⟨rfl, ?_⟩
            rw [et2, ext_snoc, if_pos hn]
        · rintro δ' m' ⟨rfl, rfl⟩
          walk_at "s"
          refine ew_tup ?_
          walk_at "s"
          refine mi_nM (by walk_at "m") hgm ?_
          walk_at "s"
          refine ⟨Nat.le_of_ble_eq_true rfl, ?_⟩
          walk_at "s"
          first | refine ⟨_, _, rfl, ?_⟩ | skip
          have et3 : ((row.take (i + 1)).map fun p => stepD ((fin T).idxOf p.1, p.2)) = ((row.take i).map fun p => stepD ((fin T).idxOf p.1, p.2)) ++ [stepD ((fin T).idxOf g, t)] := by rw [et, List.map_append]; rfl
          rw [← hix, et3]
      · rintro δ' m' ⟨x5, x6, rfl, rfl⟩
        have em : (row.map fun p => stepD ((fin T).idxOf p.1, p.2)) = (rowN T (ordT T j)[j]).map stepD := by
          rw [hrow, List.map_map]
          rfl
        rw [List.take_length, ← e1, em]
        have hp := ordT_pre1 T j
        have hc1 : j < (ordT T (j + 1)).length := Nat.lt_of_lt_of_le hc hp.length_le
        refine sw_drop (ew_bm (ew_var rfl ⟨ty_A (by walk_at "m"), aw_cons (ew_still (ew_var rfl ⟨_, _, _, _, rfl, rfl, rfl, ?_⟩))⟩))
        walk_at "s"
        first | refine ⟨_, _, _, _, rfl, ?_⟩ | skip
        have et : ((ordT T (j + 1)).take (j + 1)) = (ordT T j).take j ++ [(ordT T j)[j]] := by
          rw [List.take_add_one, List.getElem?_eq_getElem hc1]
          have h1 : (ordT T (j + 1)).take j = (ordT T j).take j := by
            obtain ⟨X, hX⟩ := hp
            rw [← hX, List.take_append_of_le_length (by omega)]
          have h2 : (ordT T j)[j] = (ordT T (j + 1))[j] := hp.getElem hc
          rw [h1, h2]
          rfl
        rw [et, List.map_append]
        rfl
    · walk_at "s"
      have e : ordT T (j + 1) = ordT T j := by rw [ordT, if_neg (by omega)]
      show ∃ x3 x4 x5 x6 : Option D, _ = _ ∧ _ = _
      rw [e, List.take_of_length_le (show (ordT T j).length ≤ j + 1 by omega), List.take_of_length_le (show (ordT T j).length ≤ j by omega)]
      exact ⟨_, _, _, _, rfl, rfl⟩
  · rintro δ' m' ⟨x3, x4, x5, x6, rfl, rfl⟩
    have hfl : (ordT T T.length).length ≤ T.length := fin_len ok
    rw [List.take_of_length_le hfl]
    have e : D.lst ((ordT T T.length).map fun s => rowD (rowN T s)) = tabD (normT T) := by
      show D.lst _ = D.lst _
      rw [normT_rows, List.map_map]
      rfl
    refine sw_ret (ew_still (ew_var rfl ⟨_, _, _, _, rfl, rfl, rfl, _, _, m, rfl, ?_⟩))
    show Q (D.lst ((ordT T T.length).map fun s => rowD (rowN T s))) m
    rw [e]
    exact q

end
end DL

set_option Elab.async false
set_option linter.all false
set_option maxRecDepth 100000
set_option maxHeartbeats 4000000
set_option autoImplicit false
namespace DL
open PySem PySem.Spec PyProof.Rows L2
local macro_rules | `(tactic| walk_at "m") => `(tactic| first
  | with_reducible exact MAt.last | with_reducible exact MUp.last
  | exact MAt.zero | exact MUp.zero | exact MAt.last | exact MUp.last
  | (apply MAt.cons; walk_at "m") | (apply MUp.cons; walk_at "m")
  | (apply MAt.app; walk_at "m") | (apply MUp.app; walk_at "m")
  | assumption)
local macro_rules | `(tactic| walk_at "s1") => `(tactic| with_reducible first
  | refine sw_seq ?_ | refine sw_next ?_ | refine sw_ret ?_ | refine sw_retN ?_ | refine sw_asg ?_ | refine sw_asgG ?_ | refine sw_drop ?_ | refine sw_break ?_ | refine sw_cont ?_ | refine sw_par ?_ | refine sw_par3 ?_
  | refine tw_test ?_ | refine tw_B ?_ | refine tw_and ?_ | refine tw_or ?_ | refine tw_not ?_ | refine tw_yes ?_
  | refine ew_op ?_ | refine ew_un ?_ | refine ew_int ?_ | refine ew_non ?_ | refine ew_bl ?_ | refine ew_str ?_ | refine ew_ty ?_ | refine ew_ref ?_ | refine ew_cb ?_ | refine ew_if ?_ | refine ew_andV ?_ | refine ew_orV ?_ | refine ew_notV ?_ | refine ew_chain ?_ | refine ew_sl ?_ | refine pw_no ?_ | refine pw_part ?_
  | refine ew_call0 ?_ | refine ew_kw0 ?_
  | refine aw_nil ?_ | refine aw_cons ?_ | refine ew_bm ?_ | refine ew_bm0 ?_ | refine gs_L ?_
  | refine gs_nil ?_ | refine gs_cons ?_ | refine gw_name ?_
  | refine ow_addI ?_ | refine ow_odd ?_ | refine ow_i0 ?_ | refine ow_b0 ?_ | refine oq_eqI ?_ | refine oq_neI ?_ | refine oq_eqS ?_ | refine oq_neS ?_ | refine ow_isN ?_ | refine ow_notN ?_ | refine uw_neg ?_ | refine cw_int ?_ | refine cw_intB ?_ | refine cw_abs ?_ | refine cw_mx2 ?_ | refine cw_mn2 ?_ | refine cw_lenL ?_ | refine cw_lenR ?_ | refine cw_listL ?_ | refine cw_listT ?_ | refine lw_L ?_ | refine ew_revL ?_)
local macro_rules | `(tactic| walk_at "s2") => `(tactic| first
  | ((with_reducible refine' ew_var ?hv ?_); (case hv => exact rfl))
  | ((with_reducible refine' oi_M ?hm ?hi ?_); (case hm => walk_at "m"); (case hi => exact rfl))
  | ((with_reducible refine' ow_ixT ?hi ?_); (case hi => exact rfl))
  | ((with_reducible refine' cl_M ?hm ?_); (case hm => walk_at "m"))
  | ((with_reducible refine' ci_M ?hm ?_); (case hm => walk_at "m"))
  | ((with_reducible refine' ma_app ?hm ?ll ?_); (case hm => walk_at "m"); (case ll => walk_at "l"))
  | ((with_reducible refine' And.intro (ty_A ?hm) ?_); (case hm => walk_at "m"))
  | (with_reducible refine' Exists.intro _ (And.intro ?he ?_); (case he => exact rfl))
  | (with_reducible refine' Exists.intro _ (Exists.intro _ (And.intro ?he ?_)); (case he => exact rfl))
  | (with_reducible refine' Exists.intro _ (Exists.intro _ (Exists.intro _ (And.intro ?he ?_))); (case he => exact rfl))
  | ((with_reducible refine' Exists.intro _ (Exists.intro _ (Exists.intro _ (Exists.intro _ (Exists.intro _ (And.intro ?e1 (And.intro ?e2 (And.intro ?hm (And.intro ?hi ?_))))))))); (case e1 => exact rfl); (case e2 => exact rfl); (case hm => walk_at "m"); (case hi => exact rfl)))
local macro_rules | `(tactic| walk_at "l") => `(tactic| first | assumption | exact lt_sz (by omega) | exact lt_sz (by simp only [List.length_map, List.length_append, List.length_cons, List.length_nil, List.length_take, List.length_drop, List.length_range]; omega))
local macro_rules | `(tactic| walk_at "s") => `(tactic| repeat (first | walk_at "s1" | walk_at "s2"))
local macro_rules | `(tactic| walk_at "sx") => `(tactic| with_reducible first
  | refine swx_of ?_ | refine swx_seq ?_ | refine swx_drop ?_ | refine swx_asg ?_ | refine swx_ret ?_ | refine ewx_fun ?_ | refine ewx_meth ?_ | refine ewx_make ?_ | refine ewx_sub ?_)
local macro_rules | `(tactic| walk_at "s") => `(tactic| repeat (first | walk_at "s1" | walk_at "s2" | walk_at "sx"))
local macro_rules | `(tactic| walk_at "g1") => `(tactic| with_reducible first
  | refine ew_tup2 ?_ | refine ew_tup3 ?_ | refine ew_tup4 ?_ | refine ew_fldI ?_ | refine sw_fldA ?_ | refine ew_dget1 ?_ | refine ew_dget2 ?_ | refine ow_isN ?_)
local macro_rules | `(tactic| walk_at "g2") => `(tactic| first
  | ((with_reducible refine' gw_tup ?e ?_); (case e => exact rfl))
  | ((with_reducible refine' oi_L ?e ?_); (case e => exact rfl))
  | ((refine' Exists.intro _ (And.intro ?cl (And.intro ?na (And.intro ?e ?_)))); (case cl => assumption); (case na => assumption); (case e => exact rfl))
  | ((refine' Exists.intro _ (Exists.intro _ (Exists.intro _ (Exists.intro _ (And.intro ?e (And.intro ?hm (And.intro ?cl (And.intro ?na (And.intro ?l ?_))))))))); (case e => exact rfl); (case hm => walk_at "m"); (case cl => assumption); (case na => assumption); (case l => exact Nat.le_of_ble_eq_true rfl)))
local macro_rules | `(tactic| walk_at "g") => `(tactic| repeat (first | walk_at "s1" | walk_at "s2" | walk_at "sx" | walk_at "g1" | walk_at "g2"))

section
variable {P : Program} {w : World} {K : PySem.W.Frag} {mg : Str → Option Value} {base : Heap} {a : Ads}
def stp (ws : List Str) (T : Tab) (s : Nat) (l : Str) : Step := (T.getD s []).getD (ws.idxOf l) (0, none)
def runF (ws : List Str) (T : Tab) (row : List Str) (s : Nat) : List (Option Int) × Nat := row.foldl (fun q l => (q.1 ++ [(stp ws T q.2 l).2], (stp ws T q.2 l).1)) ([], s)
theorem runF_snoc (ws : List Str) (T : Tab) (row : List Str) (s : Nat) (l : Str) : runF ws T (row ++ [l]) s = ((runF ws T row s).1 ++ [(stp ws T (runF ws T row s).2 l).2], (stp ws T (runF ws T row s).2 l).1) := by
  unfold runF
  rw [List.foldl_append]
  rfl
/-- a table of a service with these calls -/
structure Svc (ws : List Str) (T : Tab) : Prop where
  ok : TabOk T
  wid : ∀ r ∈ T, r.length = ws.length
  str : ∀ x ∈ ws, PyData.strOk x = true
  le : T.length ≤ 1000
  few : ws.length ≤ 1000
theorem stp_at {ws : List Str} {T : Tab} (h : Svc ws T) {s : Nat} {l : Str} (hs : s < T.length) (hl : l ∈ ws) : ∃ r, T[s]? = some r ∧ r[ws.idxOf l]? = some (stp ws T s l) ∧ (stp ws T s l).1 < T.length := by
  have hr : T[s]? = some T[s] := List.getElem?_eq_getElem hs
  have hi : ws.idxOf l < T[s].length := by rw [h.wid _ (List.getElem_mem hs)]; exact List.idxOf_lt_length_of_mem hl
  have e : stp ws T s l = T[s][ws.idxOf l] := by
    unfold stp
    rw [List.getD_eq_getElem?_getD (l := T), hr, Option.getD_some, List.getD_eq_getElem?_getD, List.getElem?_eq_getElem hi, Option.getD_some]
  refine ⟨T[s], hr, by rw [e]; exact List.getElem?_eq_getElem hi, ?_⟩
  rw [e]
  exact h.ok.lt _ (List.getElem_mem hs) _ (List.getElem_mem hi)
theorem runF_lt {ws : List Str} {T : Tab} (h : Svc ws T) {s : Nat} (hs : s < T.length) : ∀ (row : List Str), (∀ l ∈ row, l ∈ ws) → ∀ j, (runF ws T (row.take j) s).2 < T.length := by
  intro row hr j
  induction j with
  | zero => exact hs
  | succ j ih =>
    cases c : row[j]? with
    | none =>
      rw [List.take_add_one, c]
      simpa using ih
    | some l =>
      rw [List.take_add_one, c]
      show (runF ws T (row.take j ++ [l]) s).2 < _
      rw [runF_snoc]
      obtain ⟨_, _, _, h3⟩ := stp_at h ih (hr l (List.mem_of_getElem? c))
      exact h3
theorem runF_len (ws : List Str) (T : Tab) (s : Nat) (row : List Str) : (runF ws T row s).1.length = row.length := by
  have : ∀ j, (runF ws T (row.take j) s).1.length = (row.take j).length := by
    intro j
    induction j with
    | zero => rfl
    | succ j ih =>
      cases c : row[j]? with
      | none =>
        rw [List.take_add_one, c]
        simpa using ih
      | some l =>
        rw [List.take_add_one, c]
        show (runF ws T (row.take j ++ [l]) s).1.length = (row.take j ++ [l]).length
        rw [runF_snoc, List.length_append, List.length_append, ih]
        rfl
  have := this row.length
  rwa [List.take_length] at this
abbrev runD (q : List (Option Int) × Nat) : D := .tup [.lst (q.1.map ansD), .int (q.2 : Nat)]
def F_ran : FS := fun ds m Q => ∃ (ws : List Str) (T : Tab) (row : List Str) (s : Nat) (xr : D), ds = [.lst (ws.map .str), tabD T, xr, .int (s : Nat)] ∧ SeqIn m xr (row.map .str) ∧ Svc ws T ∧ (∀ l ∈ row, l ∈ ws) ∧ row.length ≤ 1000 ∧ s < T.length ∧ Q (runD (runF ws T row s)) m
theorem ok__law_ran (T : Txt K mg a) : Def P w K mg base 2 a.f__law_ran ["names_here", "grid", "row_here", "at"] (FSn 4 (F_ran)) := by
  have nd := sc__law_ran.nd
  refine defOk T.h__law_ran sc__law_ran (fun _ _ _ h => h.1) (fun cdv A outer s H E hr => by exact (pss_cons (ps_set (i := 4) nd rfl (Or.inl rfl) (pe_lst pa_nil))
    (pss_cons (ps_for PassesOwn.never rfl (kx_pi K rfl (pv 2)) (pg_name (i := 5) nd rfl (Or.inl rfl)) (pss_cons (ps_asg (pe_ix (kx_ix K rfl hr.units) (pe_ix (kx_ix K rfl hr.units) (pv 1) (pv 3) (fun _ _ => rfl)) (kx_bm K rfl PySem.F.plainAttrs_list PySem.F.slot_list_index PySem.F.type_list_index (kx_index K rfl (h65 hr)) (pv 0) (pa_cons (pv 5) pa_nil)) (fun _ _ => rfl)) (kx_tup K rfl (n := 2) (by rfl) (pgs_cons (pg_name (i := 3) nd rfl (Or.inl rfl)) (pgs_cons (pg_name (i := 6) nd rfl (Or.inl rfl)) pgs_nil))))
    (pss_one (ps_expr (kx_bm K rfl PySem.F.plainAttrs_list PySem.F.slot_list_append PySem.F.type_list_append mt_append (pv 4) (pa_cons (pv 6) pa_nil))))))
    (pss_one (ps_ret (pe_tup (pa_cons (pv 4) (pa_cons (pv 3) pa_nil)))))))) (fun ds m Q h => ?_)
  replace h := h.2
  clear nd
  obtain ⟨ws, T, row, s, xr, rfl, hx, sv, hrow, hlen, hs, q⟩ := h
  walk_at "s"
  refine ew_lstM ?_
  walk_at "s"
  refine ⟨Nat.le_of_ble_eq_true rfl, fun z => ?_⟩
  walk_at "s"
  refine sw_forQ ?_
  walk_at "s"
  refine ⟨Str, row, D.str, hx.app, fun j δ' m' => ∃ x4 x5 : Option D, δ' = [some (.lst (ws.map .str)), some (tabD T), some xr, some (.int ((runF ws T (row.take j) s).2 : Nat)), some (.adr z), x4, x5] ∧ m' = m ++ [(z, .lst ((runF ws T (row.take j) s).1.map ansD))], ?_, ?_, ?_, ?_⟩
  · exact ⟨_, _, rfl, rfl⟩
  · rintro j δ' m' ⟨x4, x5, rfl, rfl⟩
    exact hx.app
  · rintro j l δ' m' hl ⟨x4, x5, rfl, rfl⟩
    have hlt := runF_lt sv hs row hrow j
    have hln := runF_len ws T s (row.take j)
    rw [List.length_take] at hln
    have hlm := hrow l (List.mem_of_getElem? hl)
    obtain ⟨r, h1, h2, h3⟩ := stp_at sv hlt hlm
    have et : row.take (j + 1) = row.take j ++ [l] := by rw [List.take_add_one, hl]; rfl
    walk_at "s"
    refine oi_L (at_map (f := rowD) h1) ?_
    walk_at "s"
    refine ⟨ty_L, ?_⟩
    walk_at "s"
    refine mi_sL sv.str hlm ?_
    refine oi_L (at_map (f := stepD) h2) ?_
    refine gw_tup rfl ?_
    walk_at "s"
    show ∃ x4 x5 : Option D, _ = _ ∧ _ = _
    rw [et, runF_snoc]
    refine ⟨_, _, rfl, ?_⟩
    rw [List.map_append]
    rfl
  · rintro δ' m' ⟨x4, x5, rfl, rfl⟩
    rw [List.take_length]
    refine sw_ret (ew_tup (aw_cons (ew_still (ew_var rfl ⟨_, _, _, m, rfl, rfl, rfl, ?_⟩))))
    walk_at "s"
    exact ⟨Nat.le_of_ble_eq_true rfl, q⟩


end
end DL

set_option Elab.async false
set_option linter.all false
set_option maxRecDepth 100000
set_option maxHeartbeats 4000000
set_option autoImplicit false
namespace DL
open PySem PySem.Spec PyProof.Rows L2
local macro_rules | `(tactic| walk_at "m") => `(tactic| first
  | with_reducible exact MAt.last | with_reducible exact MUp.last
  | exact MAt.zero | exact MUp.zero | exact MAt.last | exact MUp.last
  | (apply MAt.cons; walk_at "m") | (apply MUp.cons; walk_at "m")
  | (apply MAt.app; walk_at "m") | (apply MUp.app; walk_at "m")
  | assumption)
local macro_rules | `(tactic| walk_at "s1") => `(tactic| with_reducible first
  | refine sw_seq ?_ | refine sw_next ?_ | refine sw_ret ?_ | refine sw_retN ?_ | refine sw_asg ?_ | refine sw_asgG ?_ | refine sw_drop ?_ | refine sw_break ?_ | refine sw_cont ?_ | refine sw_par ?_ | refine sw_par3 ?_
  | refine tw_test ?_ | refine tw_B ?_ | refine tw_and ?_ | refine tw_or ?_ | refine tw_not ?_ | refine tw_yes ?_
  | refine ew_op ?_ | refine ew_un ?_ | refine ew_int ?_ | refine ew_non ?_ | refine ew_bl ?_ | refine ew_str ?_ | refine ew_ty ?_ | refine ew_ref ?_ | refine ew_cb ?_ | refine ew_if ?_ | refine ew_andV ?_ | refine ew_orV ?_ | refine ew_notV ?_ | refine ew_chain ?_ | refine ew_sl ?_ | refine pw_no ?_ | refine pw_part ?_
  | refine ew_call0 ?_ | refine ew_kw0 ?_
  | refine aw_nil ?_ | refine aw_cons ?_ | refine ew_bm ?_ | refine ew_bm0 ?_ | refine gs_L ?_
  | refine gs_nil ?_ | refine gs_cons ?_ | refine gw_name ?_
  | refine ow_addI ?_ | refine ow_odd ?_ | refine ow_i0 ?_ | refine ow_b0 ?_ | refine oq_eqI ?_ | refine oq_neI ?_ | refine oq_eqS ?_ | refine oq_neS ?_ | refine ow_isN ?_ | refine ow_notN ?_ | refine uw_neg ?_ | refine cw_int ?_ | refine cw_intB ?_ | refine cw_abs ?_ | refine cw_mx2 ?_ | refine cw_mn2 ?_ | refine cw_lenL ?_ | refine cw_lenR ?_ | refine cw_listL ?_ | refine cw_listT ?_ | refine lw_L ?_ | refine ew_revL ?_)
local macro_rules | `(tactic| walk_at "s2") => `(tactic| first
  | ((with_reducible refine' ew_var ?hv ?_); (case hv => exact rfl))
  | ((with_reducible refine' oi_M ?hm ?hi ?_); (case hm => walk_at "m"); (case hi => exact rfl))
  | ((with_reducible refine' ow_ixT ?hi ?_); (case hi => exact rfl))
  | ((with_reducible refine' cl_M ?hm ?_); (case hm => walk_at "m"))
  | ((with_reducible refine' ci_M ?hm ?_); (case hm => walk_at "m"))
  | ((with_reducible refine' ma_app ?hm ?ll ?_); (case hm => walk_at "m"); (case ll => walk_at "l"))
  | ((with_reducible refine' And.intro (ty_A ?hm) ?_); (case hm => walk_at "m"))
  | (with_reducible refine' Exists.intro _ (And.intro ?he ?_); (case he => exact rfl))
  | (with_reducible refine' Exists.intro _ (Exists.intro _ (And.intro ?he ?_)); (case he => exact rfl))
  | (with_reducible refine' Exists.intro _ (Exists.intro _ (Exists.intro _ (And.intro ?he ?_))); (case he => exact rfl))
  | ((with_reducible refine' Exists.intro _ (Exists.intro _ (Exists.intro _ (Exists.intro _ (Exists.intro _ (And.intro ?e1 (And.intro ?e2 (And.intro ?hm (And.intro ?hi ?_))))))))); (case e1 => exact rfl); (case e2 => exact rfl); (case hm => walk_at "m"); (case hi => exact rfl)))
local macro_rules | `(tactic| walk_at "l") => `(tactic| first | assumption | exact lt_sz (by omega) | exact lt_sz (by simp only [List.length_map, List.length_append, List.length_cons, List.length_nil, List.length_take, List.length_drop, List.length_range]; omega))
local macro_rules | `(tactic| walk_at "s") => `(tactic| repeat (first | walk_at "s1" | walk_at "s2"))
local macro_rules | `(tactic| walk_at "sx") => `(tactic| with_reducible first
  | refine swx_of ?_ | refine swx_seq ?_ | refine swx_drop ?_ | refine swx_asg ?_ | refine swx_ret ?_ | refine ewx_fun ?_ | refine ewx_meth ?_ | refine ewx_make ?_ | refine ewx_sub ?_)
local macro_rules | `(tactic| walk_at "s") => `(tactic| repeat (first | walk_at "s1" | walk_at "s2" | walk_at "sx"))
local macro_rules | `(tactic| walk_at "g1") => `(tactic| with_reducible first
  | refine ew_tup2 ?_ | refine ew_tup3 ?_ | refine ew_tup4 ?_ | refine ew_fldI ?_ | refine sw_fldA ?_ | refine ew_dget1 ?_ | refine ew_dget2 ?_ | refine ow_isN ?_)
local macro_rules | `(tactic| walk_at "g2") => `(tactic| first
  | ((with_reducible refine' gw_tup ?e ?_); (case e => exact rfl))
  | ((with_reducible refine' oi_L ?e ?_); (case e => exact rfl))
  | ((refine' Exists.intro _ (And.intro ?cl (And.intro ?na (And.intro ?e ?_)))); (case cl => assumption); (case na => assumption); (case e => exact rfl))
  | ((refine' Exists.intro _ (Exists.intro _ (Exists.intro _ (Exists.intro _ (And.intro ?e (And.intro ?hm (And.intro ?cl (And.intro ?na (And.intro ?l ?_))))))))); (case e => exact rfl); (case hm => walk_at "m"); (case cl => assumption); (case na => assumption); (case l => exact Nat.le_of_ble_eq_true rfl)))
local macro_rules | `(tactic| walk_at "g") => `(tactic| repeat (first | walk_at "s1" | walk_at "s2" | walk_at "sx" | walk_at "g1" | walk_at "g2"))

section
variable {P : Program} {w : World} {K : PySem.W.Frag} {mg : Str → Option Value} {base : Heap} {a : Ads}
theorem use_cnameQ {iN : Addr} {x : Str} {m : Mem} {Q : D → Mem → Prop} (h : nameB x = true) (q : Q .non m) : FX.quiet (FXn 1 (F_cname iN)) [.str x] m Q := ⟨rfl, x, rfl, le_sz (by have := nameB_len h; omega), (fun h' => by rw [h] at h'; cases h'), fun _ => q⟩
def nmS (ws : List Str) (j : Nat) : Key → Bool
  | .inl _ => false
  | .inr x => decide (x ∈ ws.take j)
def F_checknames : FS := fun ds m Q => ∃ ws : List Str, ds = [.lst (ws.map .str)] ∧ (∀ x ∈ ws, nameB x = true) ∧ ws.Nodup ∧ ws.length ≤ 1000 ∧ Q .non m
theorem ok_check_names (T : Txt K mg a) : Def P w K mg base 5 a.f_check_names ["names"] (FSn 1 (F_checknames)) := by
  have nd := sc_check_names.nd
  have C_check_name := ok_check_name (P := P) (w := w) (base := base) T
  refine defOk T.h_check_names sc_check_names (fun _ _ _ h => h.1) (fun cdv A outer s H E hr => by exact (pss_cons (ps_set (i := 1) nd rfl (Or.inl rfl) (pe_callTy0 (kx_set0 K rfl P w rfl rfl) (by rfl) T.n_set (by decide +kernel)))
    (pss_one (ps_for PassesOwn.never rfl (kx_pi K rfl (pv 0)) (pg_name (i := 2) nd rfl (Or.inl rfl)) (pss_cons (ps_expr (kx_def K rfl C_check_name (hr.mono (by decide)) rfl T.g_check_name T.k_check_name (pa_cons (pv 2) pa_nil)))
    (pss_cons (ps_if (pt_cmpR (kx_in K rfl P w rfl rfl hr.units) (pv 2) (pv 1) (by with_unfolding_all rfl)) (pss_one ps_never) pss_nil)
    (pss_one (ps_expr (kx_sadd K rfl P w rfl rfl (pv 1) (pa_cons (pv 2) pa_nil)))))))))) (fun ds m Q h => ?_)
  replace h := h.2
  clear nd
  obtain ⟨ws, rfl, hn, nd, hl, q⟩ := h
  refine sw_forget ?_
  walk_at "s"
  refine cw_set0 fun z => ?_
  walk_at "s"
  refine sw_forX (iw_any ?_)
  walk_at "s"
  refine ⟨_, .inl rfl, Str, ws, D.str, rfl, fun j δ' m' => ∃ (x2 : Option D) (S : Key → Bool) (n : Nat), δ' = [some (.lst (ws.map .str)), some (.adr z), x2] ∧ m' = m ++ [(z, setC P w z S n)] ∧ (∀ x : Str, S (.inr x) = decide (x ∈ ws.take j)) ∧ n ≤ j, ?_, ?_, ?_⟩
  · exact ⟨_, _, _, rfl, rfl, fun x => rfl, Nat.le_refl _⟩
  · rintro j l δ' m' hj ⟨x2, S, n, rfl, rfl, hS, hnj⟩
    have hjl := (List.getElem?_eq_some_iff.mp hj).1
    have et : ws.take (j + 1) = ws.take j ++ [l] := by rw [List.take_add_one, hj]; rfl
    have hno : S (.inr l) = false := by
      rw [hS]
      refine decide_eq_false fun hm => ?_
      have n2 : (ws.take (j + 1)).Nodup := nd.sublist (List.take_sublist _ _)
      rw [et] at n2
      exact (List.nodup_append.mp n2).2.2 l hm l (by simp) rfl
    walk_at "s"
    refine use_cnameQ (hn l (List.mem_of_getElem? hj)) ?_
    walk_at "s"
    refine sw_if ?_
    walk_at "s"
    refine in_S (x := .inr l) (by walk_at "m") ?_
    rw [hno]
    walk_at "s"
    rw [if_neg Bool.false_ne_true]
    walk_at "s"
    refine ew_saddA ?_
    walk_at "s"
    refine ⟨⟨z, S, n, rfl, by walk_at "m"⟩, ?_⟩
    walk_at "s"
    refine ⟨z, S, n, .inr l, _, rfl, rfl, by walk_at "m", by show n + 1 < 4096; omega, ?_⟩
    refine ⟨_, _, _, rfl, rfl, fun x => ?_, by rw [hno, if_neg Bool.false_ne_true]; omega⟩
    show (S (.inr x) || decide (Sum.inr x = (Sum.inr l : Key))) = _
    rw [hS, et]
    by_cases e : x = l
    · subst e
      simp
    · simp [e]
  · rintro δ' m' ⟨x2, S, n, rfl, rfl, hS, hnj⟩
    exact ⟨_, _, m, rfl, q⟩
def F_isstate : FS := fun ds m Q => ∃ n k : Int, ds = [.int n, .int k] ∧ Q (.bl (decide (0 ≤ n) && decide (n < k))) m
theorem ok_is_state (T : Txt K mg a) : Def P w K mg base 2 a.f_is_state ["number", "many"] (FSn 2 (F_isstate)) := by
  have nd := sc_is_state.nd
  refine defOk T.h_is_state sc_is_state (fun _ _ _ h => h.1) (fun cdv A outer s H E hr => by exact (pss_cons (ps_if (PW.pt (pw_or (pt_not (pt_val (pe_callB (kx_isi K rfl) (by rfl) T.n_isinstance (by decide +kernel) (pa_cons (pv 0) (pa_cons (pe_bltn (v := .ty "int") (by rfl) T.n_int (by decide +kernel) rfl) pa_nil))))) (pw_or1 (pt_val (pe_callB (kx_isi K rfl) (by rfl) T.n_isinstance (by decide +kernel) (pa_cons (pv 0) (pa_cons (pe_bltn (v := .ty "bool") (by rfl) T.n_bool (by decide +kernel) rfl) pa_nil))))))) (pss_one (ps_ret pe_bl)) pss_nil)
    (pss_one (ps_ret (pe_chain op_le op_lt pe_int (pv 0) (pv 1)))))) (fun ds m Q h => ?_)
  replace h := h.2
  clear nd
  obtain ⟨n, k, rfl, q⟩ := h
  walk_at "s"
  refine sw_if ?_
  walk_at "s"
  refine cw_isi (n := "int") (b := true) rfl rfl (fun _ h => nomatch h) ?_
  walk_at "s"
  rw [if_neg (by decide)]
  walk_at "s"
  refine cw_isi (n := "int") (b := false) rfl rfl (fun _ h => nomatch h) ?_
  walk_at "s"
  rw [if_neg (by decide)]
  walk_at "s"
  refine iteD (fun h1 => ?_) (fun h1 => ?_)
  · walk_at "s"
    rw [decide_eq_true h1] at q
    exact q
  · rw [decide_eq_false h1] at q
    exact q
theorem use_isstate {n k : Int} {m : Mem} {Q : D → Mem → Prop} (q : Q (.bl (decide (0 ≤ n) && decide (n < k))) m) : FSn 2 F_isstate [.int n, .int k] m Q := ⟨rfl, n, k, rfl, q⟩
theorem use_isstate1 {n k : Nat} {m : Mem} {Q : D → Mem → Prop} (h : n < k) (q : Q (.bl true) m) : FSn 2 F_isstate [.int (n : Nat), .int (k : Nat)] m Q := use_isstate (by
  rw [decide_eq_true (by omega : (0 : Int) ≤ (n : Nat)), decide_eq_true (by omega : ((n : Nat) : Int) < (k : Nat))]
  exact q)
def F_checktable : FS := fun ds m Q => ∃ (T : Tab) (k : Nat), ds = [tabD T, .int (k : Nat)] ∧ (∀ r ∈ T, r.length = k) ∧ (∀ r ∈ T, ∀ s ∈ r, s.1 < T.length) ∧ T.length ≤ 1000 ∧ k ≤ 1000 ∧ Q .non m
theorem ok_check_table (T : Txt K mg a) : Def P w K mg base 3 a.f_check_table ["table", "width"] (FSn 2 (F_checktable)) := by
  have nd := sc_check_table.nd
  have C_is_state := ok_is_state (P := P) (w := w) (base := base) T
  refine defOk T.h_check_table sc_check_table (fun _ _ _ h => h.1) (fun cdv A outer s H E hr => by exact (pss_one (ps_for PassesOwn.never rfl (kx_enum K rfl (by rfl) T.n_enumerate (pa_cons (pv 0) pa_nil)) (kx_tup K rfl (n := 2) (by rfl) (pgs_cons (pg_name (i := 2) nd rfl (Or.inl rfl)) (pgs_cons (pg_name (i := 3) nd rfl (Or.inl rfl)) pgs_nil))) (pss_cons (ps_if (pt_cmpR (kx_neU K rfl hr.units) (pe_callB (kx_len K rfl) (by rfl) T.n_len (by decide +kernel) (pa_cons (pv 3) pa_nil)) (pv 1) (nomark _)) (pss_one ps_never) pss_nil)
    (pss_one (ps_for PassesOwn.never rfl (kx_pi K rfl (pv 3)) (pg_name (i := 4) nd rfl (Or.inl rfl)) (pss_one (ps_if (pt_not (pt_val (kx_def K rfl C_is_state (hr.mono (by decide)) rfl T.g_is_state T.k_is_state (pa_cons (pe_ix (kx_ix K rfl hr.units) (pv 4) pe_int (fun _ _ => rfl)) (pa_cons (pe_callB (kx_len K rfl) (by rfl) T.n_len (by decide +kernel) (pa_cons (pv 0) pa_nil)) pa_nil))))) (pss_one ps_never) pss_nil)))))))) (fun ds m Q h => ?_)
  replace h := h.2
  clear nd
  obtain ⟨T, k, rfl, hw, hg, hT, hk, q⟩ := h
  refine sw_forX (iw_enum ?_)
  walk_at "s"
  rw [enumD_map]
  refine ⟨List Step × Nat, T.zipIdx, fun p => .tup [.int (p.2 : Nat), rowD p.1], rfl, fun j δ' m' => ∃ x2 x3 x4 : Option D, δ' = [some (tabD T), some (.int (k : Nat)), x2, x3, x4] ∧ m' = m, ?_, ?_, ?_⟩
  · exact ⟨_, _, _, rfl, rfl⟩
  · rintro j ⟨r, i⟩ δ' m' hj ⟨x2, x3, x4, rfl, rfl⟩
    have hr : r ∈ T := by
      have := List.mem_of_getElem? hj
      exact (List.mem_zipIdx this).2.2 ▸ List.getElem_mem _
    refine gw_tup rfl ?_
    walk_at "s"
    refine sw_if ?_
    walk_at "s"
    rw [List.length_map, hw r hr]
    refine iteN (fun h0 => absurd rfl h0) (fun h0 => ?_)
    walk_at "s"
    refine sw_forX (iw_any ?_)
    walk_at "s"
    refine ⟨_, .inl rfl, Step, r, stepD, rfl, fun j δ' m2 => ∃ x4 : Option D, δ' = [some (tabD T), some (.int (k : Nat)), some (.int (i : Nat)), some (rowD r), x4] ∧ m2 = m', ?_, ?_, ?_⟩
    · exact ⟨_, rfl, rfl⟩
    · rintro j2 s δ' m2 hj2 ⟨x4, rfl, rfl⟩
      walk_at "s"
      refine sw_if ?_
      walk_at "s"
      rw [List.length_map]
      refine use_isstate1 (hg r hr s (List.mem_of_getElem? hj2)) ?_
      walk_at "s"
      rw [if_neg (by decide)]
      walk_at "s"
      exact ⟨_, rfl, rfl⟩
    · rintro δ' m2 ⟨x4, rfl, rfl⟩
      exact ⟨_, _, _, rfl, rfl⟩
  · rintro δ' m' ⟨x2, x3, x4, rfl, rfl⟩
    exact q

end
end DL

set_option Elab.async false
set_option linter.all false
set_option maxRecDepth 100000
set_option maxHeartbeats 4000000
set_option autoImplicit false
namespace DL
open PySem PySem.Spec PyProof.Rows L2
local macro_rules | `(tactic| walk_at "m") => `(tactic| first
  | with_reducible exact MAt.last | with_reducible exact MUp.last
  | exact MAt.zero | exact MUp.zero | exact MAt.last | exact MUp.last
  | (apply MAt.cons; walk_at "m") | (apply MUp.cons; walk_at "m")
  | (apply MAt.app; walk_at "m") | (apply MUp.app; walk_at "m")
  | assumption)
local macro_rules | `(tactic| walk_at "s1") => `(tactic| with_reducible first
  | refine sw_seq ?_ | refine sw_next ?_ | refine sw_ret ?_ | refine sw_retN ?_ | refine sw_asg ?_ | refine sw_asgG ?_ | refine sw_drop ?_ | refine sw_break ?_ | refine sw_cont ?_ | refine sw_par ?_ | refine sw_par3 ?_
  | refine tw_test ?_ | refine tw_B ?_ | refine tw_and ?_ | refine tw_or ?_ | refine tw_not ?_ | refine tw_yes ?_
  | refine ew_op ?_ | refine ew_un ?_ | refine ew_int ?_ | refine ew_non ?_ | refine ew_bl ?_ | refine ew_str ?_ | refine ew_ty ?_ | refine ew_ref ?_ | refine ew_cb ?_ | refine ew_if ?_ | refine ew_andV ?_ | refine ew_orV ?_ | refine ew_notV ?_ | refine ew_chain ?_ | refine ew_sl ?_ | refine pw_no ?_ | refine pw_part ?_
  | refine ew_call0 ?_ | refine ew_kw0 ?_
  | refine aw_nil ?_ | refine aw_cons ?_ | refine ew_bm ?_ | refine ew_bm0 ?_ | refine gs_L ?_
  | refine gs_nil ?_ | refine gs_cons ?_ | refine gw_name ?_
  | refine ow_addI ?_ | refine ow_odd ?_ | refine ow_i0 ?_ | refine ow_b0 ?_ | refine oq_eqI ?_ | refine oq_neI ?_ | refine oq_eqS ?_ | refine oq_neS ?_ | refine ow_isN ?_ | refine ow_notN ?_ | refine uw_neg ?_ | refine cw_int ?_ | refine cw_intB ?_ | refine cw_abs ?_ | refine cw_mx2 ?_ | refine cw_mn2 ?_ | refine cw_lenL ?_ | refine cw_lenR ?_ | refine cw_listL ?_ | refine cw_listT ?_ | refine lw_L ?_ | refine ew_revL ?_)
local macro_rules | `(tactic| walk_at "s2") => `(tactic| first
  | ((with_reducible refine' ew_var ?hv ?_); (case hv => exact rfl))
  | ((with_reducible refine' oi_M ?hm ?hi ?_); (case hm => walk_at "m"); (case hi => exact rfl))
  | ((with_reducible refine' ow_ixT ?hi ?_); (case hi => exact rfl))
  | ((with_reducible refine' cl_M ?hm ?_); (case hm => walk_at "m"))
  | ((with_reducible refine' ci_M ?hm ?_); (case hm => walk_at "m"))
  | ((with_reducible refine' ma_app ?hm ?ll ?_); (case hm => walk_at "m"); (case ll => walk_at "l"))
  | ((with_reducible refine' And.intro (ty_A ?hm) ?_); (case hm => walk_at "m"))
  | (with_reducible refine' Exists.intro _ (And.intro ?he ?_); (case he => exact rfl))
  | (with_reducible refine' Exists.intro _ (Exists.intro _ (And.intro ?he ?_)); (case he => exact rfl))
  | (with_reducible refine' Exists.intro _ (Exists.intro _ (Exists.intro _ (And.intro ?he ?_))); (case he => exact rfl))
  | ((with_reducible refine' Exists.intro _ (Exists.intro _ (Exists.intro _ (Exists.intro _ (Exists.intro _ (And.intro ?e1 (And.intro ?e2 (And.intro ?hm (And.intro ?hi ?_))))))))); (case e1 => exact rfl); (case e2 => exact rfl); (case hm => walk_at "m"); (case hi => exact rfl)))
local macro_rules | `(tactic| walk_at "l") => `(tactic| first | assumption | exact lt_sz (by omega) | exact lt_sz (by simp only [List.length_map, List.length_append, List.length_cons, List.length_nil, List.length_take, List.length_drop, List.length_range]; omega))
local macro_rules | `(tactic| walk_at "s") => `(tactic| repeat (first | walk_at "s1" | walk_at "s2"))
local macro_rules | `(tactic| walk_at "sx") => `(tactic| with_reducible first
  | refine swx_of ?_ | refine swx_seq ?_ | refine swx_drop ?_ | refine swx_asg ?_ | refine swx_ret ?_ | refine ewx_fun ?_ | refine ewx_meth ?_ | refine ewx_make ?_ | refine ewx_sub ?_)
local macro_rules | `(tactic| walk_at "s") => `(tactic| repeat (first | walk_at "s1" | walk_at "s2" | walk_at "sx"))
local macro_rules | `(tactic| walk_at "g1") => `(tactic| with_reducible first
  | refine ew_tup2 ?_ | refine ew_tup3 ?_ | refine ew_tup4 ?_ | refine ew_fldI ?_ | refine sw_fldA ?_ | refine ew_dget1 ?_ | refine ew_dget2 ?_ | refine ow_isN ?_)
local macro_rules | `(tactic| walk_at "g2") => `(tactic| first
  | ((with_reducible refine' gw_tup ?e ?_); (case e => exact rfl))
  | ((with_reducible refine' oi_L ?e ?_); (case e => exact rfl))
  | ((refine' Exists.intro _ (And.intro ?cl (And.intro ?na (And.intro ?e ?_)))); (case cl => assumption); (case na => assumption); (case e => exact rfl))
  | ((refine' Exists.intro _ (Exists.intro _ (Exists.intro _ (Exists.intro _ (And.intro ?e (And.intro ?hm (And.intro ?cl (And.intro ?na (And.intro ?l ?_))))))))); (case e => exact rfl); (case hm => walk_at "m"); (case cl => assumption); (case na => assumption); (case l => exact Nat.le_of_ble_eq_true rfl)))
local macro_rules | `(tactic| walk_at "g") => `(tactic| repeat (first | walk_at "s1" | walk_at "s2" | walk_at "sx" | walk_at "g1" | walk_at "g2"))

section
variable {P : Program} {w : World} {K : PySem.W.Frag} {mg : Str → Option Value} {base : Heap} {a : Ads}
/-! ### lists of new lists, as cells; lent as data -/
theorem MUp.pre {a b b' : Mem} {p : Addr} {c c' : Cell} (h : MUp b p c c' b') : MUp (a ++ b) p c c' (a ++ b') := by
  obtain ⟨i, h1, rfl⟩ := h
  refine ⟨a.length + i, ?_, ?_⟩
  · rw [List.getElem?_append_right (by omega), Nat.add_sub_cancel_left]
    exact h1
  · rw [List.set_append_right _ _ (by omega), Nat.add_sub_cancel_left]
theorem MAt.pre {a b : Mem} {p : Addr} {c : Cell} (h : MAt b p c) : MAt (a ++ b) p c := by
  obtain ⟨i, h1⟩ := h
  refine ⟨a.length + i, ?_⟩
  rw [List.getElem?_append_right (by omega), Nat.add_sub_cancel_left]
  exact h1
theorem MAt.of_mem {m : Mem} {x : Addr × Cell} (h : x ∈ m) : MAt m x.1 x.2 := List.mem_iff_getElem?.mp h
section
variable {α : Type} {f : α → D}
abbrev lstF (f : α → D) (r : List α) : D := .lst (r.map f)
abbrev cellF (f : α → D) (z : Addr) (r : List α) : Addr × Cell := (z, .lst (r.map f))
def cellsF (f : α → D) (zs : List Addr) (G : List (List α)) : Mem := List.zipWith (cellF f) zs G
theorem cellsF_snoc {zs : List Addr} {G : List (List α)} (h : zs.length = G.length) (z r) : cellsF f (zs ++ [z]) (G ++ [r]) = cellsF f zs G ++ [cellF f z r] := by unfold cellsF; rw [List.zipWith_append h]; rfl
theorem cellsF_at {zs : List Addr} {G : List (List α)} {j : Nat} {z : Addr} {r : List α} (hz : zs[j]? = some z) (hr : G[j]? = some r) : (cellsF f zs G)[j]? = some (cellF f z r) := by
  unfold cellsF
  rw [List.getElem?_zipWith, hz, hr]
theorem cellsF_up {zs : List Addr} {G : List (List α)} {j : Nat} {z : Addr} {r : List α} (hz : zs[j]? = some z) (hr : G[j]? = some r) (r' : List α) : MUp (cellsF f zs G) z (.lst (r.map f)) (.lst (r'.map f)) (cellsF f zs (G.set j r')) := by
  refine ⟨j, cellsF_at hz hr, ?_⟩
  refine List.ext_getElem? fun i => ?_
  unfold cellsF
  rw [List.getElem?_set, List.getElem?_zipWith, List.getElem?_zipWith, List.getElem?_set]
  have hj := (List.getElem?_eq_some_iff.mp hr).1
  have hjz := (List.getElem?_eq_some_iff.mp hz).1
  by_cases e : j = i
  · subst e
    rw [if_pos rfl, if_pos rfl, if_pos hj, if_pos (by rw [List.length_zipWith]; omega), hz]
  · rw [if_neg e, if_neg e]
theorem cellsF_lst (zs : List Addr) (G : List (List α)) : ∀ x ∈ cellsF f zs G, ∃ ds, x.2 = .lst ds := fun x hx => by
  unfold cellsF at hx
  rw [← List.map_uncurry_zip_eq_zipWith] at hx
  obtain ⟨⟨z, q⟩, _, rfl⟩ := List.mem_map.mp hx
  exact ⟨_, rfl⟩
theorem cellsF_flat (h : ∀ x, (f x).tsc = true) (zs : List Addr) (G : List (List α)) : ∀ x ∈ cellsF f zs G, x.2.flat = true := fun x hx => by
  unfold cellsF at hx
  rw [← List.map_uncurry_zip_eq_zipWith] at hx
  obtain ⟨⟨z, q⟩, _, rfl⟩ := List.mem_map.mp hx
  show (q.map f).all D.tsc = true
  rw [List.all_eq_true]
  intro y hy
  obtain ⟨w, _, rfl⟩ := List.mem_map.mp hy
  exact h w
/-- [list(row) for row in rows] : a list of new cells -/
theorem ew_cellsF {K : PySem.W.Frag} {δ : List (Option D)} {m : Mem} {Q : D → Mem → Prop} {te : TE} {tt : TT} {g : TG} {wi : TI} {vs : List Nat} (f : α → D) (tm : Tame g vs) (h : IW K wi δ m fun ds m1 => ∃ G : List (List α), ds = G.map (lstF f) ∧ G.length ≤ sizeLine ∧
      (∀ (b : List α) (acc : List D) (m' : Mem) (z : Addr), b ∈ G → GW K g (lstF f b) (wipeD δ vs) (m' ++ [(z, .lst acc)]) fun δ2 m2 => TW K tt δ2 m2 fun c m3 => c = true ∧ EW K te δ2 m3 fun y m4 => ∃ z2, y = .adr z2 ∧ m4 = m' ++ [(z, .lst acc)] ++ [(z2, .lst (b.map f))]) ∧
      ∀ (zs : List Addr) (z : Addr), zs.length = G.length → Q (.adr z) (m1 ++ cellsF f zs G ++ [(z, .lst (zs.map .adr))])) : EW K (tLc wi g tt te vs) δ m Q := by
  refine ew_lcM tm fun σ H s M QQ k => h σ H s M QQ fun J H1 m1 ds ⟨G, ed, hl, st, q⟩ => k J H1 m1 ds ⟨fun j acc m' => ∃ zs : List Addr, zs.length = (G.take j).length ∧ acc = zs.map .adr ∧ m' = m1 ++ cellsF f zs (G.take j), ⟨[], rfl, rfl, by show m1 = m1 ++ []; rw [List.append_nil]⟩, ?_, ?_⟩
  · rintro j d acc m' z hj ⟨zs, hz, rfl, rfl⟩
    subst ed
    obtain ⟨b, hb, rfl⟩ : ∃ b, G[j]? = some b ∧ lstF f b = d := by
      rw [List.getElem?_map] at hj
      cases c : G[j]? with
      | none => rw [c] at hj; cases hj
      | some b => rw [c] at hj; injection hj with hj; exact ⟨b, rfl, hj⟩
    have hlt := (List.getElem?_eq_some_iff.mp hb).1
    have et : G.take (j + 1) = G.take j ++ [b] := by rw [List.take_add_one, hb]; rfl
    have hz2 := hz
    rw [List.length_take] at hz2
    refine ⟨by rw [List.length_map]; omega, ?_⟩
    refine fun σ H v s M r QQ k => st b _ _ z (List.mem_of_getElem? hb) σ H v s M r QQ fun δ' m' σ' H' q => k δ' m' σ' H' fun σ H s M QQ k => q σ H s M QQ fun c m2 H2 q => k c m2 H2 ?_
    obtain ⟨hc, q⟩ := q
    rw [if_pos hc]
    refine ew_perm (fun σ H s M QQ k => q σ H s M QQ fun y m4 v4 H4 q => k y m4 v4 H4 ?_)
    obtain ⟨z2, rfl, rfl⟩ := q
    refine ⟨_, perm_end, m1 ++ cellsF f zs (G.take j) ++ [(z2, .lst (b.map f))], rfl, zs ++ [z2], by rw [et, List.length_append, List.length_append, hz]; rfl, by rw [List.map_append]; rfl, ?_⟩
    rw [et, cellsF_snoc hz, List.append_assoc]
  · rintro acc m' z ⟨zs, hz, rfl, rfl⟩
    subst ed
    rw [List.length_map, List.take_length] at hz ⊢
    exact q zs z hz
end
def Lends (K : PySem.W.Frag) (m0 r : Mem) (d0 d : D) : Prop := ∀ (H : Hp) (v : V), MemOk K (m0 ++ r) H → Rd K (hide (m0 ++ r) H) v d0 → Rd K (hide m0 H) v d
def LentG (K : PySem.W.Frag) (m0 r : Mem) (δ δ' : List (Option D)) : Prop := δ'.length = δ.length ∧ ∀ (i : Nat) (d : D), δ'[i]? = some (some d) → ∃ d0, δ[i]? = some (some d0) ∧ Lends K m0 r d0 d
theorem Lends.same {m0 r : Mem} {d : D} : Lends K m0 r d d := fun H v M x => x.mono (MemOk.dropG r M).2
theorem LentG.refl {m0 r : Mem} {δ : List (Option D)} : LentG K m0 r δ δ := ⟨rfl, fun _ d h => ⟨d, h, Lends.same⟩⟩
theorem LentG.set {m0 r : Mem} {δ δ' : List (Option D)} {i : Nat} {d0 d : D} (L : LentG K m0 r δ δ') (e : δ[i]? = some (some d0)) (h : Lends K m0 r d0 d) : LentG K m0 r δ (δ'.set i (some d)) := by
  refine ⟨by rw [List.length_set]; exact L.1, fun j x hx => ?_⟩
  by_cases hj : i = j
  · subst hj
    have hl : i < δ'.length := by rw [L.1]; exact (List.getElem?_eq_some_iff.mp e).1
    rw [List.getElem?_set_self hl] at hx
    cases hx
    exact ⟨d0, e, h⟩
  · rw [List.getElem?_set_ne hj] at hx
    exact L.2 j x hx
theorem LentG.sl {m0 r : Mem} {δ δ' : List (Option D)} {H : Hp} {σ : L2.St} (L : LentG K m0 r δ δ') (M : MemOk K (m0 ++ r) H) (s : Sl K (hide (m0 ++ r) H) σ δ) : Sl K (hide m0 H) σ δ' :=
  ⟨s.1.trans L.1.symm, fun i d h => let ⟨d0, e, l⟩ := L.2 i d h; let ⟨v, e1, r1⟩ := s.2 i d0 e; ⟨v, e1, l H v M r1⟩⟩
theorem ew_lendG {δ δ' : List (Option D)} {m0 r : Mem} {Q : D → Mem → Prop} {te : TE} (L : LentG K m0 r δ δ') (ow : ∀ x ∈ r, ∃ ds, x.2 = .lst ds) (h : EW K te δ' m0 fun d m1 => d.tsc = true ∧ (∀ x ∈ m1, x.2.flat = true) ∧ Q d (m1 ++ r)) : EW K te δ (m0 ++ r) Q := fun σ H s M QQ k =>
  h σ H (L.sl M s) (MemOk.dropG r M).1 QQ fun d m1 v H1 ⟨sd, fl, q⟩ s1 M1 r1 =>
    let ⟨M2, s2, t⟩ := lend_back M (fun x hx => by obtain ⟨ds, e⟩ := ow x hx; rw [e]; rfl) s1 M1 fl
    k d _ v H1 q s2 M2 (Rd.tsc sd t r1)
theorem Lends.cell {m0 r : Mem} {z : Addr} {c : Cell} {d : D} (hc : (z, c) ∈ r) (ec : c.d = some d) : Lends K m0 r (.adr z) d := fun H v M x => by
  cases x
  have sb := (MemOk.dropG r M).2
  have nd := M.nd
  rw [List.map_append] at nd
  refine still_of (M.at_ z c (List.mem_append_right _ hc)) ec sb (hide_out fun q => ?_)
  exact (List.nodup_append.mp nd).2.2 z q z (List.mem_map_of_mem (f := Prod.fst) hc) rfl
theorem Lends.rows {α : Type} {f : α → D} {m0 r : Mem} {H : Hp} (M : MemOk K (m0 ++ r) H) : ∀ {zs : List Addr} {G : List (List α)} {xs : List V}, zs.length = G.length → (∀ x ∈ cellsF f zs G, x ∈ r) → RdL K (hide (m0 ++ r) H) xs (zs.map .adr) → RdL K (hide m0 H) xs (G.map (lstF f))
  | [], [], _, _, _, x => by cases x; exact .nil
  | [], _ :: _, _, h, _, _ => by cases h
  | _ :: _, [], _, h, _, _ => by cases h
  | z :: zs, b :: G, xs, hl, h, x => by
    cases x with
    | cons x1 x2 =>
      refine .cons ?_ (Lends.rows M (by simpa using hl) (fun y hy => h y (List.mem_cons_of_mem (cellF f z b) hy)) x2)
      have hz : cellF f z b ∈ r := h (cellF f z b) List.mem_cons_self
      exact Lends.cell (c := .lst (b.map f)) hz rfl H _ M x1
theorem Lends.tab {α : Type} {f : α → D} {m0 r : Mem} {z : Addr} {zs : List Addr} {G : List (List α)} (hc : (z, Cell.lst (zs.map .adr)) ∈ r) (hl : zs.length = G.length) (h : ∀ x ∈ cellsF f zs G, x ∈ r) : Lends K m0 r (.adr z) (.lst (G.map (lstF f))) := fun H v M x => by
  cases x
  have nd := M.nd
  rw [List.map_append] at nd
  obtain ⟨xs, e, rr⟩ := M.at_ z _ (List.mem_append_right m0 hc)
  refine .lst ?_ (Lends.rows M hl h rr)
  rw [hide_out fun q => (List.nodup_append.mp nd).2.2 z q z (List.mem_map_of_mem (f := Prod.fst) hc) rfl]
  exact e
/-- a list of cells, shown -/
theorem resL_cells {α : Type} {f : α → D} {n : Nat} {m : Mem} (hf : ∀ (b : List α), (b.map f).all (D.fl n) = true) : ∀ {zs : List Addr} {G : List (List α)}, zs.length = G.length → (∀ x ∈ cellsF f zs G, x ∈ m) → ResL K m (zs.map .adr) (D.pyL (G.map (lstF f)))
  | [], [], _, _ => by
    rw [show D.pyL (([] : List (List α)).map (lstF f)) = [] by simp only [List.map_nil, D.pyL]]
    exact .nil
  | [], _ :: _, h, _ => by cases h
  | _ :: _, [], h, _ => by cases h
  | z :: zs, b :: G, hl, h => by
    have ih := resL_cells (zs := zs) (G := G) (n := n) hf (by simpa using hl) (fun x hx => h x (List.mem_cons_of_mem (cellF f z b) hx))
    have h1 : cellF f z b ∈ m := h (cellF f z b) List.mem_cons_self
    rw [show D.pyL ((b :: G).map (lstF f)) = (lstF f b).py :: D.pyL (G.map (lstF f)) by simp only [List.map_cons, D.pyL]]
    refine .cons ?_ ih
    rw [show (lstF f b).py = .list (D.pyL (b.map f)) by simp only [lstF, D.py]]
    exact Res.adr (MAt.of_mem h1) (resL_fl (n := n) (hf b))

end
end DL

set_option Elab.async false
set_option linter.all false
set_option maxRecDepth 100000
set_option maxHeartbeats 4000000
set_option autoImplicit false
namespace DL
open PySem PySem.Spec PyProof.Rows L2
local macro_rules | `(tactic| walk_at "m") => `(tactic| first
  | with_reducible exact MAt.last | with_reducible exact MUp.last
  | exact MAt.zero | exact MUp.zero | exact MAt.last | exact MUp.last
  | (apply MAt.cons; walk_at "m") | (apply MUp.cons; walk_at "m")
  | (apply MAt.app; walk_at "m") | (apply MUp.app; walk_at "m")
  | assumption)
local macro_rules | `(tactic| walk_at "s1") => `(tactic| with_reducible first
  | refine sw_seq ?_ | refine sw_next ?_ | refine sw_ret ?_ | refine sw_retN ?_ | refine sw_asg ?_ | refine sw_asgG ?_ | refine sw_drop ?_ | refine sw_break ?_ | refine sw_cont ?_ | refine sw_par ?_ | refine sw_par3 ?_
  | refine tw_test ?_ | refine tw_B ?_ | refine tw_and ?_ | refine tw_or ?_ | refine tw_not ?_ | refine tw_yes ?_
  | refine ew_op ?_ | refine ew_un ?_ | refine ew_int ?_ | refine ew_non ?_ | refine ew_bl ?_ | refine ew_str ?_ | refine ew_ty ?_ | refine ew_ref ?_ | refine ew_cb ?_ | refine ew_if ?_ | refine ew_andV ?_ | refine ew_orV ?_ | refine ew_notV ?_ | refine ew_chain ?_ | refine ew_sl ?_ | refine pw_no ?_ | refine pw_part ?_
  | refine ew_call0 ?_ | refine ew_kw0 ?_
  | refine aw_nil ?_ | refine aw_cons ?_ | refine ew_bm ?_ | refine ew_bm0 ?_ | refine gs_L ?_
  | refine gs_nil ?_ | refine gs_cons ?_ | refine gw_name ?_
  | refine ow_addI ?_ | refine ow_odd ?_ | refine ow_i0 ?_ | refine ow_b0 ?_ | refine oq_eqI ?_ | refine oq_neI ?_ | refine oq_eqS ?_ | refine oq_neS ?_ | refine ow_isN ?_ | refine ow_notN ?_ | refine uw_neg ?_ | refine cw_int ?_ | refine cw_intB ?_ | refine cw_abs ?_ | refine cw_mx2 ?_ | refine cw_mn2 ?_ | refine cw_lenL ?_ | refine cw_lenR ?_ | refine cw_listL ?_ | refine cw_listT ?_ | refine lw_L ?_ | refine ew_revL ?_)
local macro_rules | `(tactic| walk_at "s2") => `(tactic| first
  | ((with_reducible refine' ew_var ?hv ?_); (case hv => exact rfl))
  | ((with_reducible refine' oi_M ?hm ?hi ?_); (case hm => walk_at "m"); (case hi => exact rfl))
  | ((with_reducible refine' ow_ixT ?hi ?_); (case hi => exact rfl))
  | ((with_reducible refine' cl_M ?hm ?_); (case hm => walk_at "m"))
  | ((with_reducible refine' ci_M ?hm ?_); (case hm => walk_at "m"))
  | ((with_reducible refine' ma_app ?hm ?ll ?_); (case hm => walk_at "m"); (case ll => walk_at "l"))
  | ((with_reducible refine' And.intro (ty_A ?hm) ?_); (case hm => walk_at "m"))
  | (with_reducible refine' Exists.intro _ (And.intro ?he ?_); (case he => exact rfl))
  | (with_reducible refine' Exists.intro _ (Exists.intro _ (And.intro ?he ?_)); (case he => exact rfl))
  | (with_reducible refine' Exists.intro _ (Exists.intro _ (Exists.intro _ (And.intro ?he ?_))); (case he => exact rfl))
  | ((with_reducible refine' Exists.intro _ (Exists.intro _ (Exists.intro _ (Exists.intro _ (Exists.intro _ (And.intro ?e1 (And.intro ?e2 (And.intro ?hm (And.intro ?hi ?_))))))))); (case e1 => exact rfl); (case e2 => exact rfl); (case hm => walk_at "m"); (case hi => exact rfl)))
local macro_rules | `(tactic| walk_at "l") => `(tactic| first | assumption | exact lt_sz (by omega) | exact lt_sz (by simp only [List.length_map, List.length_append, List.length_cons, List.length_nil, List.length_take, List.length_drop, List.length_range]; omega))
local macro_rules | `(tactic| walk_at "s") => `(tactic| repeat (first | walk_at "s1" | walk_at "s2"))
local macro_rules | `(tactic| walk_at "sx") => `(tactic| with_reducible first
  | refine swx_of ?_ | refine swx_seq ?_ | refine swx_drop ?_ | refine swx_asg ?_ | refine swx_ret ?_ | refine ewx_fun ?_ | refine ewx_meth ?_ | refine ewx_make ?_ | refine ewx_sub ?_)
local macro_rules | `(tactic| walk_at "s") => `(tactic| repeat (first | walk_at "s1" | walk_at "s2" | walk_at "sx"))
local macro_rules | `(tactic| walk_at "g1") => `(tactic| with_reducible first
  | refine ew_tup2 ?_ | refine ew_tup3 ?_ | refine ew_tup4 ?_ | refine ew_fldI ?_ | refine sw_fldA ?_ | refine ew_dget1 ?_ | refine ew_dget2 ?_ | refine ow_isN ?_)
local macro_rules | `(tactic| walk_at "g2") => `(tactic| first
  | ((with_reducible refine' gw_tup ?e ?_); (case e => exact rfl))
  | ((with_reducible refine' oi_L ?e ?_); (case e => exact rfl))
  | ((refine' Exists.intro _ (And.intro ?cl (And.intro ?na (And.intro ?e ?_)))); (case cl => assumption); (case na => assumption); (case e => exact rfl))
  | ((refine' Exists.intro _ (Exists.intro _ (Exists.intro _ (Exists.intro _ (And.intro ?e (And.intro ?hm (And.intro ?cl (And.intro ?na (And.intro ?l ?_))))))))); (case e => exact rfl); (case hm => walk_at "m"); (case cl => assumption); (case na => assumption); (case l => exact Nat.le_of_ble_eq_true rfl)))
local macro_rules | `(tactic| walk_at "g") => `(tactic| repeat (first | walk_at "s1" | walk_at "s2" | walk_at "sx" | walk_at "g1" | walk_at "g2"))

section
variable {P : Program} {w : World} {K : PySem.W.Frag} {mg : Str → Option Value} {base : Heap} {a : Ads}
def F_reachedC : FS := fun ds m Q => ∃ T : Tab, ds = [tabD T] ∧ TabOk T ∧ T.length ≤ 1000 ∧ (∀ r ∈ T, r.length ≤ 1000) ∧ ∀ z : Addr, Q (.adr z) (m ++ [(z, .lst ((fin T).map natD))])
theorem ok_reached (T : Txt K mg a) : Def P w K mg base 2 a.f_reached ["table"] (FSn 1 (F_reachedC)) := by
  have nd := sc_reached.nd
  refine defOk T.h_reached sc_reached (fun _ _ _ h => h.1) (fun cdv A outer s H E hr => by exact (pss_cons (ps_set (i := 1) nd rfl (Or.inl rfl) (pe_lst (pa_cons pe_int pa_nil)))
    (pss_cons (ps_set (i := 2) nd rfl (Or.inl rfl) (pe_disp (pps_cons pe_int pe_bl pps_nil) (by rfl) (by rfl) (fun z => by cases z) (by decide)))
    (pss_cons (ps_set (i := 3) nd rfl (Or.inl rfl) pe_int)
    (pss_cons (ps_while PassesOwn.never (pt_cmpR op_lt (pv 3) (pe_callB (kx_len K rfl) (by rfl) T.n_len (by decide +kernel) (pa_cons (pv 1) pa_nil)) (nomark _)) (pss_cons (ps_set (i := 4) nd rfl (Or.inl rfl) (pe_ix (kx_ix K rfl hr.units) (pv 0) (pe_ix (kx_ix K rfl hr.units) (pv 1) (pv 3) (fun _ _ => rfl)) (fun _ _ => rfl)))
    (pss_cons (ps_for PassesOwn.never rfl (kx_pi K rfl (pv 4)) (kx_tup K rfl (n := 2) (by rfl) (pgs_cons (pg_name (i := 5) nd rfl (Or.inl rfl)) (pgs_cons (pg_name (i := 6) nd rfl (Or.inl rfl)) pgs_nil))) (pss_one (ps_if (pt_cmpR (kx_notIn K rfl P w rfl rfl hr.units) (pv 5) (pv 2) (by with_unfolding_all rfl)) (pss_cons (ps_dput (h1u hr) (pv 2) (pv 5) pe_bl rfl)
    (pss_one (ps_expr (kx_bm K rfl PySem.F.plainAttrs_list PySem.F.slot_list_append PySem.F.type_list_append mt_append (pv 1) (pa_cons (pv 5) pa_nil))))) pss_nil)))
    (pss_one (ps_aug (i := 3) nd rfl (Or.inl rfl) pe_int ip_add)))))
    (pss_one (ps_ret (pv 1)))))))) (fun ds m Q h => ?_)
  replace h := h.2
  clear nd
  obtain ⟨T, rfl, ok, hT, hR, q⟩ := h
  refine sw_forget ?_
  walk_at "s"
  refine ew_lstM ?_
  walk_at "s"
  refine ⟨Nat.le_of_ble_eq_true rfl, fun z1 => ?_⟩
  walk_at "s"
  refine ew_disp1M fun z2 => ?_
  walk_at "s"
  refine ⟨.inl 0, m ++ [(z1, .lst [.int 0])], rfl, rfl, ?_⟩
  walk_at "s"
  refine sw_while (fun n δ' m' => ∃ (t : Nat) (x4 x5 x6 : Option D), δ' = [some (tabD T), some (.adr z1), some (.adr z2), some (.int (t : Nat)), x4, x5, x6] ∧ m' = m ++ [(z1, .lst ((ordT T t).map natD))] ++ [(z2, .dic (seenD (ordT T t)))] ∧ t ≤ (ordT T t).length ∧ n + t = T.length) T.length ⟨0, _, _, _, rfl, rfl, Nat.zero_le _, rfl⟩ ?_
  rintro n δ' m' ⟨t, x4, x5, x6, rfl, rfl, ht, hn⟩
  have hl := ordT_len ok t
  walk_at "s"
  rw [List.length_map]
  refine iteD (fun hc => ?_) (fun hc => ?_)
  · have hc : t < (ordT T t).length := by omega
    have hs : (ordT T t)[t]? = some (ordT T t)[t] := List.getElem?_eq_getElem hc
    have hsl : (ordT T t)[t] < T.length := ordT_lt ok t _ (List.getElem_mem hc)
    have hr : T[(ordT T t)[t]]? = some T[(ordT T t)[t]] := List.getElem?_eq_getElem hsl
    walk_at "s"
    refine oi_M (by walk_at "m") (at_map (f := natD) hs) ?_
    refine oi_L (at_map (f := rowD) hr) ?_
    have e1 : ordT T (t + 1) = ext (ordT T t) ((T[(ordT T t)[t]]).map (·.1)) := by
      rw [ordT, if_pos hc, List.getD_eq_getElem?_getD, hs]
      unfold goals
      rw [List.getD_eq_getElem?_getD, Option.getD_some, hr]
      rfl
    have hrl := hR _ (List.getElem_mem hsl)
    generalize hrow : T[(ordT T t)[t]] = row at hr e1 hrl ⊢
    walk_at "s"
    refine sw_forX (iw_any ?_)
    walk_at "s"
    refine ⟨_, .inl rfl, Step, row, stepD, rfl, fun i δ' m' => ∃ x5 x6 : Option D, δ' = [some (tabD T), some (.adr z1), some (.adr z2), some (.int (t : Nat)), some (rowD row), x5, x6] ∧ m' = m ++ [(z1, .lst ((ext (ordT T t) ((row.take i).map (·.1))).map natD))] ++ [(z2, .dic (seenD (ext (ordT T t) ((row.take i).map (·.1)))))], ?_, ?_, ?_⟩
    · exact ⟨_, _, rfl, rfl⟩
    · rintro i ⟨g, tt⟩ δ' m' hi ⟨x5, x6, rfl, rfl⟩
      have et : (row.take (i + 1)).map (·.1) = (row.take i).map (·.1) ++ [g] := by rw [List.take_add_one, hi, List.map_append]; rfl
      have hlen := nd_le T.length (ext (ordT T t) ((row.take i).map (·.1))) (ext_nd _ _ (ordT_nd T t)) fun x hx => by
        have : x ∈ ordT T (t + 1) := by
          rw [e1]
          rcases (ext_mem _ _).mp hx with a | a
          · exact (ext_mem _ _).mpr (.inl a)
          · obtain ⟨y, hy, rfl⟩ := List.mem_map.mp a
            exact (ext_mem _ _).mpr (.inr (List.mem_map_of_mem (List.mem_of_mem_take hy)))
        exact ordT_lt ok _ _ this
      refine gw_tup rfl ?_
      walk_at "s"
      refine sw_if ?_
      walk_at "s"
      refine nin_DM (x := .inl (g : Nat)) (by walk_at "m") ?_
      rw [seen_val]
      walk_at "s"
      refine iteN (fun hn => ?_) (fun hn => ?_)
      · walk_at "s"
        refine sw_dputA ?_
        walk_at "s"
        refine ⟨z2, _, .inl (g : Nat), _, rfl, rfl, by walk_at "m", ?_, ?_⟩
        · exact lt_sz (by simp only [List.length_map]; omega)
        rw [seen_put hn]
        walk_at "s"
        show ∃ x5 x6 : Option D, _ = _ ∧ _ = _
        rw [et, ext_snoc, if_neg hn]
        refine ⟨_, _, rfl, ?_⟩
        rw [List.map_append]
        rfl
      · walk_at "s"
        show ∃ x5 x6 : Option D, _ = _ ∧ _ = _
        rw [et, ext_snoc, if_pos hn]
        exact ⟨_, _, rfl, rfl⟩
    · rintro δ' m' ⟨x5, x6, rfl, rfl⟩
      rw [List.take_length, ← e1]
      have hp := ordT_pre1 T t
      have hc1 : t < (ordT T (t + 1)).length := Nat.lt_of_lt_of_le hc hp.length_le
      refine sw_aug rfl ?_
      walk_at "s"
      exact ⟨n - 1, by omega, t + 1, _, _, _, rfl, rfl, by omega, by omega⟩
  · have e := fin_of ok (t := t) (by omega)
    rw [e]
    refine sw_ret (ew_var rfl ?_)
    exact ⟨z2, _, _, rfl, q z1⟩
abbrev srvD (C : Addr) (ws : List Str) (T : Tab) : D := .ins C [("_names", .lst (ws.map .str)), ("_places", .dic (ws.zipIdx.map fun p => (Sum.inr p.1, natD p.2))), ("_rows", tabD T)]
structure SvcIn (ws : List Str) (T : Tab) : Prop where
  ok : TabOk T
  wid : ∀ r ∈ T, r.length = ws.length
  nm : ∀ x ∈ ws, nameB x = true
  nd : ws.Nodup
  le : T.length ≤ 1000
  few : ws.length ≤ 1000
/-- names and a table that are new lists of new lists -/
def handM (zn zt : Addr) (zs : List Addr) (ws : List Str) (T : Tab) : Mem := [(zn, .lst (ws.map .str))] ++ cellsF stepD zs T ++ [(zt, .lst (zs.map .adr))]
theorem handM_lst (zn zt zs ws T) : ∀ x ∈ handM zn zt zs ws T, ∃ ds, x.2 = .lst ds := fun x hx => by
  rcases List.mem_append.mp hx with hx | hx
  · rcases List.mem_append.mp hx with hx | hx
    · rw [List.mem_singleton.mp hx]; exact ⟨_, rfl⟩
    · exact cellsF_lst _ _ x hx
  · rw [List.mem_singleton.mp hx]; exact ⟨_, rfl⟩
theorem handM_n {zn zt zs ws T} : (zn, Cell.lst (ws.map .str)) ∈ handM zn zt zs ws T := by simp [handM]
theorem handM_t {zn zt zs ws T} : (zt, Cell.lst (zs.map .adr)) ∈ handM zn zt zs ws T := by simp [handM]
theorem handM_r {zn zt zs ws T} : ∀ x ∈ cellsF stepD zs T, x ∈ handM zn zt zs ws T := fun x hx => List.mem_append_left _ (List.mem_append_right _ hx)
def F_initC (C : Addr) : FS := fun ds m Q => ∃ (m0 : Mem) (p zn zt : Addr) (zs : List Addr) (ws : List Str) (T : Tab), ds = [.adr p, .adr zn, .adr zt] ∧ m = m0 ++ handM zn zt zs ws T ++ [(p, .ins C [])] ∧ (∀ x ∈ m0, x.2.flat = true) ∧ zs.length = T.length ∧ SvcIn ws T ∧
  ∀ fs, srvD C ws (normT T) = .ins C fs → Q .non (m0 ++ handM zn zt zs ws T ++ [(p, .ins C fs)])
theorem ok_Service___init__ (T : Txt K mg a) : Def P w K mg base 6 a.f_Service___init__ ["self", "names", "table"] (FSn 3 (F_initC a.c_Service)) := by
  have nd := sc_Service___init__.nd
  have C_reached := ok_reached (P := P) (w := w) (base := base) T
  have C_check_table := ok_check_table (P := P) (w := w) (base := base) T
  have C_check_names := ok_check_names (P := P) (w := w) (base := base) T
  refine defOk T.h_Service___init__ sc_Service___init__ (fun _ _ _ h => h.1) (fun cdv A outer s H E hr => by exact (pss_cons (ps_expr (kx_def K rfl C_check_names (hr.mono (by decide)) rfl T.g_check_names T.k_check_names (pa_cons (pv 1) pa_nil)))
    (pss_cons (ps_expr (kx_def K rfl C_check_table (hr.mono (by decide)) rfl T.g_check_table T.k_check_table (pa_cons (pv 2) (pa_cons (pe_callB (kx_len K rfl) (by rfl) T.n_len (by decide +kernel) (pa_cons (pv 1) pa_nil)) pa_nil))))
    (pss_cons (ps_set (i := 3) nd rfl (Or.inl rfl) (kx_def K rfl C_reached (hr.mono (by decide)) rfl T.g_reached T.k_reached (pa_cons (pv 2) pa_nil)))
    (pss_cons (ps_set (i := 4) nd rfl (Or.inr rfl) (pe_dc (own := [("number", 5), ("state", 6)]) (g := (gTup K 2 (gCons (gName 5) (gCons (gName 6) gNil)))) (tt := tYes) rfl nd (kx_enum K rfl (by rfl) T.n_enumerate (pa_cons (pv 3) pa_nil)) (blkOk_by (own := [("number", 5), ("state", 6)]) (N := N_Service___init__) (sc := defScope s_Service___init__) (by decide +kernel)) (fun _ _ _ _ _ => (kx_tup K rfl (n := 2) (by rfl) (pgs_cons (pg_name (i := 5) nd rfl (by first | exact Or.inl rfl | exact Or.inr rfl)) (pgs_cons (pg_name (i := 6) nd rfl (by first | exact Or.inl rfl | exact Or.inr rfl)) pgs_nil)))) (fun _ _ _ _ _ => pts_nil) (fun _ _ _ _ _ => (pv 6)) (fun _ _ _ _ _ => (pv 5))))
    (pss_cons (kx_set K rfl (pv 0) (pe_callTy (kx_list K rfl) (by rfl) T.n_list (by decide +kernel) (pa_cons (pv 1) pa_nil)))
    (pss_cons (kx_set K rfl (pv 0) (pe_dc (own := [("place", 7), ("name", 8)]) (g := (gTup K 2 (gCons (gName 7) (gCons (gName 8) gNil)))) (tt := tYes) rfl nd (kx_enum K rfl (by rfl) T.n_enumerate (pa_cons (pv 1) pa_nil)) (blkOk_by (own := [("place", 7), ("name", 8)]) (N := N_Service___init__) (sc := defScope s_Service___init__) (by decide +kernel)) (fun _ _ _ _ _ => (kx_tup K rfl (n := 2) (by rfl) (pgs_cons (pg_name (i := 7) nd rfl (by first | exact Or.inl rfl | exact Or.inr rfl)) (pgs_cons (pg_name (i := 8) nd rfl (by first | exact Or.inl rfl | exact Or.inr rfl)) pgs_nil)))) (fun _ _ _ _ _ => pts_nil) (fun _ _ _ _ _ => (pv 8)) (fun _ _ _ _ _ => (pv 7))))
    (pss_one (kx_set K rfl (pv 0) (pe_lc (own := [("state", 6)]) (g := (gName 6)) (tt := tYes) rfl nd (kx_pi K rfl (pv 3)) (blkOk_by (own := [("state", 6)]) (N := N_Service___init__) (sc := defScope s_Service___init__) (by decide +kernel)) (fun _ _ _ _ _ => (pg_name (i := 6) nd rfl (by first | exact Or.inl rfl | exact Or.inr rfl))) (fun _ _ _ _ _ => pts_nil) (fun _ _ _ _ _ => (pe_lc (own := [("onward", 9), ("answer", 10)]) (g := (gTup K 2 (gCons (gName 9) (gCons (gName 10) gNil)))) (tt := tYes) rfl nd (kx_pi K rfl (pe_ix (kx_ix K rfl hr.units) (pv 2) (pv 6) (fun _ _ => rfl))) (by exact blkIn (own := [("onward", 9), ("answer", 10)]) (N := N_Service___init__) (sc0 := defScope s_Service___init__) (by decide +kernel)) (fun _ _ _ _ _ => (kx_tup K rfl (n := 2) (by rfl) (pgs_cons (pg_name (i := 9) nd rfl (by first | exact Or.inl rfl | exact Or.inr rfl)) (pgs_cons (pg_name (i := 10) nd rfl (by first | exact Or.inl rfl | exact Or.inr rfl)) pgs_nil)))) (fun _ _ _ _ _ => pts_nil) (fun _ _ _ _ _ => (pe_tup (pa_cons (pe_ix (kx_ix K rfl hr.units) (pv 4) (pv 9) (fun _ _ => rfl)) (pa_cons (pv 10) pa_nil)))))))))))))))) (fun ds m Q h => ?_)
  replace h := h.2
  clear nd
  have cl := T.cl_Service
  have na1 := T.na_Service__names
  have na2 := T.na_Service__places
  have na3 := T.na_Service__rows
  obtain ⟨m0, p, zn, zt, zs, ws, T, rfl, rfl, fl, hzl, sv, q⟩ := h
  have LG : ∀ {mm : Mem} {x3 x4 x5 x6 x7 x8 x9 x10 : Option D}, LentG K mm (handM zn zt zs ws T) [some (.adr p), some (.adr zn), some (.adr zt), x3, x4, x5, x6, x7, x8, x9, x10] [some (.adr p), some (.lst (ws.map .str)), some (tabD T), x3, x4, x5, x6, x7, x8, x9, x10] := fun {mm x3 x4 x5 x6 x7 x8 x9 x10} =>
    (LentG.refl.set (i := 1) rfl (Lends.cell handM_n rfl)).set (i := 2) rfl (Lends.tab handM_t hzl handM_r)
  have LD : ∀ {c : Cell} {x3 x4 x5 x6 x7 x8 x9 x10 : Option D}, Lent ([(p, c)] ++ handM zn zt zs ws T) [some (.adr p), some (.adr zn), some (.adr zt), x3, x4, x5, x6, x7, x8, x9, x10] [some (.adr p), some (.lst (ws.map .str)), some (.adr zt), x3, x4, x5, x6, x7, x8, x9, x10] := fun {c x3 x4 x5 x6 x7 x8 x9 x10} =>
    Lent.refl.set (i := 1) rfl (List.mem_append_right _ handM_n) rfl
  have OW := handM_lst zn zt zs ws T
  have OD : ∀ {C : Addr} {fs : List (Str × D)}, ∀ x ∈ [(p, Cell.ins C fs)] ++ handM zn zt zs ws T, x.2.own = true ∧ ∀ kvs, x.2 ≠ .dic kvs := fun {C fs} x hx => by
    rcases List.mem_append.mp hx with hx | hx
    · rw [List.mem_singleton.mp hx]
      exact ⟨rfl, fun kvs e => by cases e⟩
    · obtain ⟨ds, e⟩ := OW x hx
      rw [e]
      exact ⟨rfl, fun kvs e => by cases e⟩
  have fl1 : ∀ x ∈ m0 ++ [(p, Cell.ins a.c_Service [])], x.2.flat = true := fun x hx => by
    rcases List.mem_append.mp hx with hx | hx
    · exact fl x hx
    · rw [List.mem_singleton.mp hx]; rfl
  have pa : (m0 ++ handM zn zt zs ws T ++ [(p, Cell.ins a.c_Service [])]).Perm (m0 ++ [(p, Cell.ins a.c_Service [])] ++ handM zn zt zs ws T) := by
    rw [List.append_assoc, List.append_assoc]
    exact List.Perm.append_left m0 List.perm_append_comm
  have hmn : MAt (handM zn zt zs ws T) zn (.lst (ws.map .str)) := MAt.of_mem (x := (zn, _)) handM_n
  have hmt : MAt (handM zn zt zs ws T) zt (.lst (zs.map .adr)) := MAt.of_mem (x := (zt, _)) handM_t
  have hmr : ∀ {i : Nat} {z : Addr} {r : List Step}, zs[i]? = some z → T[i]? = some r → MAt (handM zn zt zs ws T) z (.lst (r.map stepD)) := fun {i z r} h1 h2 => MAt.of_mem (x := (z, _)) (handM_r _ (List.mem_of_getElem? (cellsF_at (f := stepD) h1 h2)))
  generalize handM zn zt zs ws T = hm at *
  refine sw_seq (sw_drop (ew_ahead pa (ew_lendG LG OW ?_)))
  walk_at "s"
  refine ⟨rfl, ws, rfl, sv.nm, sv.nd, sv.few, rfl, fl1, ?_⟩
  refine sw_seq (sw_drop (ew_lendG LG OW ?_))
  walk_at "s"
  rw [List.length_map]
  have hR : ∀ r ∈ T, r.length ≤ 1000 := fun r hr => by rw [sv.wid r hr]; exact sv.few
  refine ⟨rfl, T, ws.length, rfl, sv.wid, sv.ok.lt, sv.le, sv.few, rfl, fl1, ?_⟩
  refine sw_seq (sw_asg (ew_still (ew_perm (ew_lendG LG OW ?_))))
  walk_at "s"
  have fl2 : ∀ z : Addr, ∀ x ∈ m0 ++ [(p, Cell.ins a.c_Service [])] ++ [(z, Cell.lst ((fin T).map natD))], x.2.flat = true := fun z x hx => by
    rcases List.mem_append.mp hx with hx | hx
    · exact fl1 x hx
    · rw [List.mem_singleton.mp hx]
      show ((fin T).map natD).all D.tsc = true
      rw [List.all_eq_true]
      intro y hy
      obtain ⟨w, _, rfl⟩ := List.mem_map.mp hy
      rfl
  have pz : ∀ z : Addr, (m0 ++ [(p, Cell.ins a.c_Service [])] ++ [(z, Cell.lst ((fin T).map natD))] ++ hm).Perm (m0 ++ [(p, Cell.ins a.c_Service [])] ++ hm ++ [(z, Cell.lst ((fin T).map natD))]) := fun z => by
    rw [List.append_assoc, List.append_assoc (_ ++ _)]
    exact List.Perm.append_left _ List.perm_append_comm
  refine ⟨rfl, T, rfl, sv.ok, sv.le, hR, fun z => ⟨rfl, fl2 z, _, pz z, _, _, _, _, rfl, rfl, rfl, ?_⟩⟩
  have hfl := fin_len sv.ok
  have hle := sv.le
  have hfw := sv.few
  have ndk : ((fin T).zipIdx.map fun p => (Sum.inl ((p.1 : Nat) : Int) : Key)).Nodup := by
    have e : ((fin T).zipIdx.map fun p => (Sum.inl ((p.1 : Nat) : Int) : Key)) = (fin T).map fun x => Sum.inl ((x : Nat) : Int) := by
      conv => rhs; rw [← List.zipIdx_map_fst 0 (fin T), List.map_map]
      rfl
    rw [e]
    exact nd_map (fun a b hab => by injection hab with hab; omega) (fin_nd T)
  have ndn : (ws.zipIdx.map fun p => (Sum.inr p.1 : Key)).Nodup := by
    have e : (ws.zipIdx.map fun p => (Sum.inr p.1 : Key)) = ws.map fun x => Sum.inr x := by
      conv => rhs; rw [← List.zipIdx_map_fst 0 ws, List.map_map]
      rfl
    rw [e]
    exact nd_map (fun a b hab => by injection hab) sv.nd
  have look : ∀ g ∈ fin T, valD ((fin T).zipIdx.map fun p => (Sum.inl ((p.1 : Nat) : Int), natD p.2)) (.inl ((g : Nat) : Int)) = some (natD ((fin T).idxOf g)) := by
    intro g hg
    have hm : (g, (fin T).idxOf g) ∈ (fin T).zipIdx := by
      have hi := List.idxOf_lt_length_of_mem hg
      rw [List.mem_zipIdx_iff_getElem?, List.getElem?_eq_getElem hi, List.getElem_idxOf hi]
    exact find_key (kf := fun p : Nat × Nat => Sum.inl ((p.1 : Nat) : Int)) (vf := fun p => natD p.2) ndk hm
  refine sw_seq (sw_asg (ew_dcF (α := Nat × Nat) (tame_tup (tames_cons (by decide) (tames_cons (by decide) tames_nil))) (iw_enum ?_)))
  walk_at "s"
  rw [enumD_map]
  refine ⟨(fin T).zipIdx, _, fun p => .inl (p.1 : Nat), fun p => natD p.2, rfl, le_sz (by rw [List.length_zipIdx]; omega), ndk, ?_, ?_⟩
  · rintro ⟨x, i⟩ acc z hx
    refine gw_tup rfl ?_
    walk_at "s"
    refine ⟨rfl, ?_⟩
    walk_at "s"
    exact ⟨rfl, rfl, rfl⟩
  refine sw_seq (sw_fldA ?_)
  walk_at "s"
  refine cq_list (.at_ (MAt.pre hmn)) ?_
  walk_at "s"
  refine ⟨p, _, _, _, rfl, by walk_at "m", cl, na1, by decide, ?_⟩
  refine sw_seq (sw_fldA ?_)
  rw [List.append_assoc]
  refine ew_lendD LD OD ?_
  refine ew_dcF (α := Str × Nat) (tame_tup (tames_cons (by decide) (tames_cons (by decide) tames_nil))) (iw_enum ?_)
  walk_at "s"
  rw [enumD_map]
  refine ⟨ws.zipIdx, _, fun p => .inr p.1, fun p => natD p.2, rfl, le_sz (by rw [List.length_zipIdx]; omega), ndn, ?_, ?_⟩
  · rintro ⟨x, i⟩ acc z hx
    refine gw_tup rfl ?_
    walk_at "s"
    refine ⟨rfl, ?_⟩
    walk_at "s"
    exact ⟨rfl, rfl, rfl⟩
  refine ⟨⟨_, rfl, ?_⟩, ?_, ?_⟩
  · rw [List.all_eq_true]
    intro y hy
    rw [List.map_map] at hy
    obtain ⟨w, _, rfl⟩ := List.mem_map.mp hy
    rfl
  · exact fl
  rw [← List.append_assoc]
  walk_at "s"
  refine ⟨p, _, _, _, rfl, by walk_at "m", cl, na2, Nat.le_of_ble_eq_true rfl, ?_⟩
  generalize hP : putFD (Str.ofString "_places") _ _ = fs0
  refine sw_fldA (ew_perm ?_)
  refine ew_lcF (tame_name (by decide)) (iw_any ?_)
  walk_at "s"
  refine ⟨_, .inl rfl, Nat, fin T, natD, fun s => rowD ((T.getD s []).map fun p => ((fin T).idxOf p.1, p.2)), rfl, le_sz (by omega), ?_, ?_⟩
  · intro s acc z2 hs
    have hsl : s < T.length := fin_lt sv.ok hs
    have hr : T[s]? = some T[s] := List.getElem?_eq_getElem hsl
    have hzs : zs[s]? = some (zs[s]'(by omega)) := List.getElem?_eq_getElem (by omega)
    have hrl := hR _ (List.getElem_mem hsl)
    have hgr := hmr hzs hr
    walk_at "s"
    refine ⟨rfl, ?_⟩
    refine ew_still (ew_lcQ (tame_tup (tames_cons (by decide) (tames_cons (by decide) tames_nil))) ?_)
    walk_at "s"
    refine oi_M (MAt.app (MAt.pre hmt)) (at_map (f := D.adr) hzs) ?_
    refine ⟨Step, T[s], stepD, .at_ (MAt.app (MAt.pre hgr)), fun j acc2 m' => acc2 = ((T[s]).take j).map (fun p => stepD ((fin T).idxOf p.1, p.2)) ∧ m' = m0 ++ [(p, Cell.ins a.c_Service fs0)] ++ hm ++ [(z2, Cell.lst acc)], ⟨rfl, rfl⟩, ?_, ?_, ?_⟩
    · rintro j acc2 m' ⟨rfl, rfl⟩
      exact .at_ (MAt.app (MAt.pre hgr))
    · rintro j ⟨g, t⟩ acc2 m' z3 hj ⟨rfl, rfl⟩
      have hjl := (List.getElem?_eq_some_iff.mp hj).1
      have hgf : g ∈ fin T := fin_closed sv.ok hs (by unfold goals; rw [List.getD_eq_getElem?_getD, hr]; exact List.mem_map_of_mem (List.mem_of_getElem? hj))
      refine ⟨lt_sz (by rw [List.length_map, List.length_take]; omega), ?_⟩
      refine gw_tup rfl ?_
      walk_at "s"
      rw [if_pos rfl]
      walk_at "s"
      refine ew_tup ?_
      walk_at "s"
      refine ow_ixDi (look g hgf) ?_
      walk_at "s"
      refine ⟨Nat.le_of_ble_eq_true rfl, _, rfl, ?_, rfl⟩
      rw [List.take_add_one, hj, List.map_append]
      rfl
    · rintro acc2 m' z3 ⟨rfl, rfl⟩
      refine ⟨_, _, _, _, rfl, rfl, rfl, ?_, rfl⟩
      rw [List.take_length]
      show D.lst _ = D.lst _
      rw [List.getD_eq_getElem?_getD, hr, Option.getD_some, List.map_map]
      rfl
  have pe : (m0 ++ [(p, Cell.ins a.c_Service fs0)] ++ hm).Perm (m0 ++ hm ++ [(p, Cell.ins a.c_Service fs0)]) := by
    rw [List.append_assoc, List.append_assoc]
    exact List.Perm.append_left m0 List.perm_append_comm
  refine ⟨_, pe, ?_⟩
  walk_at "s"
  refine ⟨p, _, _, _, rfl, by walk_at "m", cl, na3, by rw [← hP]; exact Nat.le_of_ble_eq_true rfl, ?_⟩
  refine q _ ?_
  have e : D.lst ((fin T).map fun s => rowD ((T.getD s []).map fun p => ((fin T).idxOf p.1, p.2))) = tabD (normT T) := by
    show D.lst _ = D.lst _
    unfold normT
    rw [List.map_map]
    rfl
  unfold srvD
  rw [← e, ← hP]
  rfl

end
end DL

set_option Elab.async false
set_option linter.all false
set_option maxRecDepth 100000
set_option maxHeartbeats 4000000
set_option autoImplicit false
namespace DL
open PySem PySem.Spec PyProof.Rows L2
local macro_rules | `(tactic| walk_at "m") => `(tactic| first
  | with_reducible exact MAt.last | with_reducible exact MUp.last
  | exact MAt.zero | exact MUp.zero | exact MAt.last | exact MUp.last
  | (apply MAt.cons; walk_at "m") | (apply MUp.cons; walk_at "m")
  | (apply MAt.app; walk_at "m") | (apply MUp.app; walk_at "m")
  | assumption)
local macro_rules | `(tactic| walk_at "s1") => `(tactic| with_reducible first
  | refine sw_seq ?_ | refine sw_next ?_ | refine sw_ret ?_ | refine sw_retN ?_ | refine sw_asg ?_ | refine sw_asgG ?_ | refine sw_drop ?_ | refine sw_break ?_ | refine sw_cont ?_ | refine sw_par ?_ | refine sw_par3 ?_
  | refine tw_test ?_ | refine tw_B ?_ | refine tw_and ?_ | refine tw_or ?_ | refine tw_not ?_ | refine tw_yes ?_
  | refine ew_op ?_ | refine ew_un ?_ | refine ew_int ?_ | refine ew_non ?_ | refine ew_bl ?_ | refine ew_str ?_ | refine ew_ty ?_ | refine ew_ref ?_ | refine ew_cb ?_ | refine ew_if ?_ | refine ew_andV ?_ | refine ew_orV ?_ | refine ew_notV ?_ | refine ew_chain ?_ | refine ew_sl ?_ | refine pw_no ?_ | refine pw_part ?_
  | refine ew_call0 ?_ | refine ew_kw0 ?_
  | refine aw_nil ?_ | refine aw_cons ?_ | refine ew_bm ?_ | refine ew_bm0 ?_ | refine gs_L ?_
  | refine gs_nil ?_ | refine gs_cons ?_ | refine gw_name ?_
  | refine ow_addI ?_ | refine ow_odd ?_ | refine ow_i0 ?_ | refine ow_b0 ?_ | refine oq_eqI ?_ | refine oq_neI ?_ | refine oq_eqS ?_ | refine oq_neS ?_ | refine ow_isN ?_ | refine ow_notN ?_ | refine uw_neg ?_ | refine cw_int ?_ | refine cw_intB ?_ | refine cw_abs ?_ | refine cw_mx2 ?_ | refine cw_mn2 ?_ | refine cw_lenL ?_ | refine cw_lenR ?_ | refine cw_listL ?_ | refine cw_listT ?_ | refine lw_L ?_ | refine ew_revL ?_)
local macro_rules | `(tactic| walk_at "s2") => `(tactic| first
  | ((with_reducible refine' ew_var ?hv ?_); (case hv => exact rfl))
  | ((with_reducible refine' oi_M ?hm ?hi ?_); (case hm => walk_at "m"); (case hi => exact rfl))
  | ((with_reducible refine' ow_ixT ?hi ?_); (case hi => exact rfl))
  | ((with_reducible refine' cl_M ?hm ?_); (case hm => walk_at "m"))
  | ((with_reducible refine' ci_M ?hm ?_); (case hm => walk_at "m"))
  | ((with_reducible refine' ma_app ?hm ?ll ?_); (case hm => walk_at "m"); (case ll => walk_at "l"))
  | ((with_reducible refine' And.intro (ty_A ?hm) ?_); (case hm => walk_at "m"))
  | (with_reducible refine' Exists.intro _ (And.intro ?he ?_); (case he => exact rfl))
  | (with_reducible refine' Exists.intro _ (Exists.intro _ (And.intro ?he ?_)); (case he => exact rfl))
  | (with_reducible refine' Exists.intro _ (Exists.intro _ (Exists.intro _ (And.intro ?he ?_))); (case he => exact rfl))
  | ((with_reducible refine' Exists.intro _ (Exists.intro _ (Exists.intro _ (Exists.intro _ (Exists.intro _ (And.intro ?e1 (And.intro ?e2 (And.intro ?hm (And.intro ?hi ?_))))))))); (case e1 => exact rfl); (case e2 => exact rfl); (case hm => walk_at "m"); (case hi => exact rfl)))
local macro_rules | `(tactic| walk_at "l") => `(tactic| first | assumption | exact lt_sz (by omega) | exact lt_sz (by simp only [List.length_map, List.length_append, List.length_cons, List.length_nil, List.length_take, List.length_drop, List.length_range]; omega))
local macro_rules | `(tactic| walk_at "s") => `(tactic| repeat (first | walk_at "s1" | walk_at "s2"))
local macro_rules | `(tactic| walk_at "sx") => `(tactic| with_reducible first
  | refine swx_of ?_ | refine swx_seq ?_ | refine swx_drop ?_ | refine swx_asg ?_ | refine swx_ret ?_ | refine ewx_fun ?_ | refine ewx_meth ?_ | refine ewx_make ?_ | refine ewx_sub ?_)
local macro_rules | `(tactic| walk_at "s") => `(tactic| repeat (first | walk_at "s1" | walk_at "s2" | walk_at "sx"))
local macro_rules | `(tactic| walk_at "g1") => `(tactic| with_reducible first
  | refine ew_tup2 ?_ | refine ew_tup3 ?_ | refine ew_tup4 ?_ | refine ew_fldI ?_ | refine sw_fldA ?_ | refine ew_dget1 ?_ | refine ew_dget2 ?_ | refine ow_isN ?_)
local macro_rules | `(tactic| walk_at "g2") => `(tactic| first
  | ((with_reducible refine' gw_tup ?e ?_); (case e => exact rfl))
  | ((with_reducible refine' oi_L ?e ?_); (case e => exact rfl))
  | ((refine' Exists.intro _ (And.intro ?cl (And.intro ?na (And.intro ?e ?_)))); (case cl => assumption); (case na => assumption); (case e => exact rfl))
  | ((refine' Exists.intro _ (Exists.intro _ (Exists.intro _ (Exists.intro _ (And.intro ?e (And.intro ?hm (And.intro ?cl (And.intro ?na (And.intro ?l ?_))))))))); (case e => exact rfl); (case hm => walk_at "m"); (case cl => assumption); (case na => assumption); (case l => exact Nat.le_of_ble_eq_true rfl)))
local macro_rules | `(tactic| walk_at "g") => `(tactic| repeat (first | walk_at "s1" | walk_at "s2" | walk_at "sx" | walk_at "g1" | walk_at "g2"))

section
variable {P : Program} {w : World} {K : PySem.W.Frag} {mg : Str → Option Value} {base : Heap} {a : Ads}
/-! ### what a service tells -/
def F_calls (C : Addr) : FS := fun ds m Q => ∃ (ws : List Str) (T : Tab), ds = [srvD C ws T] ∧ ∀ z : Addr, Q (.adr z) (m ++ [(z, .lst (ws.map .str))])
theorem ok_Service_calls (T : Txt K mg a) : Def P w K mg base 2 a.f_Service_calls ["self"] (FSn 1 (F_calls a.c_Service)) := by
  have nd := sc_Service_calls.nd
  refine defOk T.h_Service_calls sc_Service_calls (fun _ _ _ h => h.1) (fun cdv A outer s H E hr => by exact (pss_one (ps_ret (pe_callTy (kx_list K rfl) (by rfl) T.n_list (by decide +kernel) (pa_cons (kx_fld K rfl (pv 0)) pa_nil))))) (fun ds m Q h => ?_)
  replace h := h.2
  clear nd
  have cl := T.cl_Service
  have na1 := T.na_Service__names
  obtain ⟨ws, T, rfl, q⟩ := h
  refine sw_ret (ew_listM ?_)
  walk_at "g"
  exact ⟨_, .of, q⟩
def F_table (C : Addr) : FS := fun ds m Q => ∃ (ws : List Str) (T : Tab), ds = [srvD C ws T] ∧ T.length ≤ 1000 ∧ ∀ (zs : List Addr) (z : Addr), zs.length = T.length → Q (.adr z) (m ++ cellsF stepD zs T ++ [(z, .lst (zs.map .adr))])
theorem ok_Service_table (T : Txt K mg a) : Def P w K mg base 2 a.f_Service_table ["self"] (FSn 1 (F_table a.c_Service)) := by
  have nd := sc_Service_table.nd
  refine defOk T.h_Service_table sc_Service_table (fun _ _ _ h => h.1) (fun cdv A outer s H E hr => by exact (pss_one (ps_ret (pe_lc (own := [("row", 1)]) (g := (gName 1)) (tt := tYes) rfl nd (kx_pi K rfl (kx_fld K rfl (pv 0))) (blkOk_by (own := [("row", 1)]) (N := N_Service_table) (sc := defScope s_Service_table) (by decide +kernel)) (fun _ _ _ _ _ => (pg_name (i := 1) nd rfl (by first | exact Or.inl rfl | exact Or.inr rfl))) (fun _ _ _ _ _ => pts_nil) (fun _ _ _ _ _ => (pe_callTy (kx_list K rfl) (by rfl) T.n_list (by decide +kernel) (pa_cons (pv 1) pa_nil))))))) (fun ds m Q h => ?_)
  replace h := h.2
  clear nd
  have cl := T.cl_Service
  have na3 := T.na_Service__rows
  obtain ⟨ws, T, rfl, hT, q⟩ := h
  refine sw_ret (ew_cellsF stepD (tame_name (by decide)) (iw_any ?_))
  walk_at "g"
  refine ⟨_, .inl rfl, T, rfl, le_sz (by omega), ?_, q⟩
  intro b acc m' z hb
  walk_at "g"
  refine ⟨rfl, ?_⟩
  refine ew_listM ?_
  walk_at "g"
  exact ⟨_, .of, fun z2 => ⟨z2, rfl, rfl⟩⟩
def F_len (C : Addr) : FS := fun ds m Q => ∃ (ws : List Str) (T : Tab), ds = [srvD C ws T] ∧ Q (.int (T.length : Nat)) m
theorem ok_Service___len__ (T : Txt K mg a) : Def P w K mg base 2 a.f_Service___len__ ["self"] (FSn 1 (F_len a.c_Service)) := by
  have nd := sc_Service___len__.nd
  refine defOk T.h_Service___len__ sc_Service___len__ (fun _ _ _ h => h.1) (fun cdv A outer s H E hr => by exact (pss_one (ps_ret (pe_callB (kx_len K rfl) (by rfl) T.n_len (by decide +kernel) (pa_cons (kx_fld K rfl (pv 0)) pa_nil))))) (fun ds m Q h => ?_)
  replace h := h.2
  clear nd
  have cl := T.cl_Service
  have na3 := T.na_Service__rows
  obtain ⟨ws, T, rfl, q⟩ := h
  walk_at "g"
  rw [List.length_map]
  exact q

end
end DL

set_option Elab.async false
set_option linter.all false
set_option maxRecDepth 100000
set_option maxHeartbeats 4000000
set_option autoImplicit false
namespace DL
open PySem PySem.Spec PyProof.Rows L2
local macro_rules | `(tactic| walk_at "m") => `(tactic| first
  | with_reducible exact MAt.last | with_reducible exact MUp.last
  | exact MAt.zero | exact MUp.zero | exact MAt.last | exact MUp.last
  | (apply MAt.cons; walk_at "m") | (apply MUp.cons; walk_at "m")
  | (apply MAt.app; walk_at "m") | (apply MUp.app; walk_at "m")
  | assumption)
local macro_rules | `(tactic| walk_at "s1") => `(tactic| with_reducible first
  | refine sw_seq ?_ | refine sw_next ?_ | refine sw_ret ?_ | refine sw_retN ?_ | refine sw_asg ?_ | refine sw_asgG ?_ | refine sw_drop ?_ | refine sw_break ?_ | refine sw_cont ?_ | refine sw_par ?_ | refine sw_par3 ?_
  | refine tw_test ?_ | refine tw_B ?_ | refine tw_and ?_ | refine tw_or ?_ | refine tw_not ?_ | refine tw_yes ?_
  | refine ew_op ?_ | refine ew_un ?_ | refine ew_int ?_ | refine ew_non ?_ | refine ew_bl ?_ | refine ew_str ?_ | refine ew_ty ?_ | refine ew_ref ?_ | refine ew_cb ?_ | refine ew_if ?_ | refine ew_andV ?_ | refine ew_orV ?_ | refine ew_notV ?_ | refine ew_chain ?_ | refine ew_sl ?_ | refine pw_no ?_ | refine pw_part ?_
  | refine ew_call0 ?_ | refine ew_kw0 ?_
  | refine aw_nil ?_ | refine aw_cons ?_ | refine ew_bm ?_ | refine ew_bm0 ?_ | refine gs_L ?_
  | refine gs_nil ?_ | refine gs_cons ?_ | refine gw_name ?_
  | refine ow_addI ?_ | refine ow_odd ?_ | refine ow_i0 ?_ | refine ow_b0 ?_ | refine oq_eqI ?_ | refine oq_neI ?_ | refine oq_eqS ?_ | refine oq_neS ?_ | refine ow_isN ?_ | refine ow_notN ?_ | refine uw_neg ?_ | refine cw_int ?_ | refine cw_intB ?_ | refine cw_abs ?_ | refine cw_mx2 ?_ | refine cw_mn2 ?_ | refine cw_lenL ?_ | refine cw_lenR ?_ | refine cw_listL ?_ | refine cw_listT ?_ | refine lw_L ?_ | refine ew_revL ?_)
local macro_rules | `(tactic| walk_at "s2") => `(tactic| first
  | ((with_reducible refine' ew_var ?hv ?_); (case hv => exact rfl))
  | ((with_reducible refine' oi_M ?hm ?hi ?_); (case hm => walk_at "m"); (case hi => exact rfl))
  | ((with_reducible refine' ow_ixT ?hi ?_); (case hi => exact rfl))
  | ((with_reducible refine' cl_M ?hm ?_); (case hm => walk_at "m"))
  | ((with_reducible refine' ci_M ?hm ?_); (case hm => walk_at "m"))
  | ((with_reducible refine' ma_app ?hm ?ll ?_); (case hm => walk_at "m"); (case ll => walk_at "l"))
  | ((with_reducible refine' And.intro (ty_A ?hm) ?_); (case hm => walk_at "m"))
  | (with_reducible refine' Exists.intro _ (And.intro ?he ?_); (case he => exact rfl))
  | (with_reducible refine' Exists.intro _ (Exists.intro _ (And.intro ?he ?_)); (case he => exact rfl))
  | (with_reducible refine' Exists.intro _ (Exists.intro _ (Exists.intro _ (And.intro ?he ?_))); (case he => exact rfl))
  | ((with_reducible refine' Exists.intro _ (Exists.intro _ (Exists.intro _ (Exists.intro _ (Exists.intro _ (And.intro ?e1 (And.intro ?e2 (And.intro ?hm (And.intro ?hi ?_))))))))); (case e1 => exact rfl); (case e2 => exact rfl); (case hm => walk_at "m"); (case hi => exact rfl)))
local macro_rules | `(tactic| walk_at "l") => `(tactic| first | assumption | exact lt_sz (by omega) | exact lt_sz (by simp only [List.length_map, List.length_append, List.length_cons, List.length_nil, List.length_take, List.length_drop, List.length_range]; omega))
local macro_rules | `(tactic| walk_at "s") => `(tactic| repeat (first | walk_at "s1" | walk_at "s2"))
local macro_rules | `(tactic| walk_at "sx") => `(tactic| with_reducible first
  | refine swx_of ?_ | refine swx_seq ?_ | refine swx_drop ?_ | refine swx_asg ?_ | refine swx_ret ?_ | refine ewx_fun ?_ | refine ewx_meth ?_ | refine ewx_make ?_ | refine ewx_sub ?_)
local macro_rules | `(tactic| walk_at "s") => `(tactic| repeat (first | walk_at "s1" | walk_at "s2" | walk_at "sx"))
local macro_rules | `(tactic| walk_at "g1") => `(tactic| with_reducible first
  | refine ew_tup2 ?_ | refine ew_tup3 ?_ | refine ew_tup4 ?_ | refine ew_fldI ?_ | refine sw_fldA ?_ | refine ew_dget1 ?_ | refine ew_dget2 ?_ | refine ow_isN ?_)
local macro_rules | `(tactic| walk_at "g2") => `(tactic| first
  | ((with_reducible refine' gw_tup ?e ?_); (case e => exact rfl))
  | ((with_reducible refine' oi_L ?e ?_); (case e => exact rfl))
  | ((refine' Exists.intro _ (And.intro ?cl (And.intro ?na (And.intro ?e ?_)))); (case cl => assumption); (case na => assumption); (case e => exact rfl))
  | ((refine' Exists.intro _ (Exists.intro _ (Exists.intro _ (Exists.intro _ (And.intro ?e (And.intro ?hm (And.intro ?cl (And.intro ?na (And.intro ?l ?_))))))))); (case e => exact rfl); (case hm => walk_at "m"); (case cl => assumption); (case na => assumption); (case l => exact Nat.le_of_ble_eq_true rfl)))
local macro_rules | `(tactic| walk_at "g") => `(tactic| repeat (first | walk_at "s1" | walk_at "s2" | walk_at "sx" | walk_at "g1" | walk_at "g2"))

section
variable {P : Program} {w : World} {K : PySem.W.Frag} {mg : Str → Option Value} {base : Heap} {a : Ads}
/-- a service as constructed: unlike names, a table of the states that come about -/
structure Srv (ws : List Str) (T : Tab) : Prop extends Svc ws T where
  nd : ws.Nodup
theorem place_of {ws : List Str} (nd : ws.Nodup) {l : Str} (hl : l ∈ ws) : valD (ws.zipIdx.map fun p => (Sum.inr p.1, natD p.2)) (.inr l) = some (natD (ws.idxOf l)) := by
  have ndn : (ws.zipIdx.map fun p => (Sum.inr p.1 : Key)).Nodup := by
    have e : (ws.zipIdx.map fun p => (Sum.inr p.1 : Key)) = ws.map fun x => Sum.inr x := by
      conv => rhs; rw [← List.zipIdx_map_fst 0 ws, List.map_map]
      rfl
    rw [e]
    exact nd_map (fun a b hab => by injection hab) nd
  have hm : (l, ws.idxOf l) ∈ ws.zipIdx := by
    have hi := List.idxOf_lt_length_of_mem hl
    rw [List.mem_zipIdx_iff_getElem?, List.getElem?_eq_getElem hi, List.getElem_idxOf hi]
  exact find_key (kf := fun p : Str × Nat => Sum.inr p.1) (vf := fun p => natD p.2) ndn hm
/-- no such state -/
abbrev outS (n : Nat) (s : Int) : Bool := !(decide (0 ≤ s) && decide (s < (n : Int)))
/-- the first name that is no call -/
def strayF (ws row : List Str) : Option Str := row.find? fun l => !decide (l ∈ ws)
theorem stray_none {ws row : List Str} (h : strayF ws row = none) : ∀ l ∈ row, l ∈ ws := fun l hl => by
  have := List.find?_eq_none.mp h l hl
  simpa using this
theorem stray_not {ws row : List Str} {l : Str} (h : strayF ws row = some l) : l ∉ ws := by
  have := List.find?_some h
  simpa using this
theorem no_place {ws : List Str} {l : Str} (h : l ∉ ws) : valD (ws.zipIdx.map fun p => (Sum.inr p.1, natD p.2)) (.inr l) = none := by
  unfold valD
  rw [Option.map_eq_none_iff, List.find?_eq_none]
  intro p hp
  obtain ⟨⟨y, i⟩, hy, rfl⟩ := List.mem_map.mp hp
  have hm : y ∈ ws := by
    have := List.mem_zipIdx' hy
    exact this.2 ▸ List.getElem_mem _
  have hne : y ≠ l := fun e => h (e ▸ hm)
  simpa using hne
def F_check (C iS uC : Addr) : FX := fun ds m Q R => ∃ (ws : List Str) (T : Tab) (row : List Str) (s : Int) (xr : D), ds = [srvD C ws T, xr, .int s] ∧ SeqIn m xr (row.map .str) ∧ Srv ws T ∧
  (outS T.length s = true → R iS (.int s) m) ∧ (outS T.length s = false → ∀ l, strayF ws row = some l → R uC (.str l) m) ∧ (outS T.length s = false → strayF ws row = none → Q .non m)
theorem okx_Service_check (T : Txt K mg a) : DefX P w K mg base 4 a.f_Service_check ["self", "row", "state"] (FXn 3 (F_check a.c_Service a.c_InvalidState a.c_UnknownCall)) := by
  have nd := sc_Service_check.nd
  have C_CutError___init__ := ok_CutError___init__ (P := P) (w := w) (base := base) T
  have C_is_state := ok_is_state (P := P) (w := w) (base := base) T
  refine defOkX T.h_Service_check sc_Service_check (fun _ _ _ _ h => h.1) (fun W cdv A outer s H E hr tkW own => ⟨_, (pss_cons (ps_if (pt_not (pt_val (kx_def K rfl C_is_state (hr.mono (by decide)) rfl T.g_is_state T.k_is_state (pa_cons (pv 2) (pa_cons (pe_callB (kx_len K rfl) (by rfl) T.n_len (by decide +kernel) (pa_cons (kx_fld K rfl (pv 0)) pa_nil)) pa_nil))))) (pss_one (kx_raise K rfl rfl tkW T.er_InvalidState C_CutError___init__ (hr.mono (by decide)) rfl T.g_InvalidState (pa_cons (pv 2) pa_nil))) pss_nil)
    (pss_one (ps_for own rfl (kx_pi K rfl (pv 1)) (pg_name (i := 3) nd rfl (Or.inl rfl)) (pss_one (ps_if (pt_cmpR (kx_notIn K rfl P w rfl rfl hr.units) (pv 3) (kx_fld K rfl (pv 0)) (by with_unfolding_all rfl)) (pss_one (kx_raise K rfl rfl tkW T.er_UnknownCall C_CutError___init__ (hr.mono (by decide)) rfl T.g_UnknownCall (pa_cons (pv 3) pa_nil))) pss_nil))))), rfl⟩) (fun ds m Q R h => ?_)
  replace h := h.2
  clear nd
  have cl := T.cl_Service
  have na2 := T.na_Service__places
  have na3 := T.na_Service__rows
  have er1 := T.er_InvalidState
  have er2 := T.er_UnknownCall
  obtain ⟨ws, T, row, s, xr, rfl, hx, sv, r1, r2, q⟩ := h
  refine swx_seq (swx_if ?_)
  walk_at "s"
  refine ew_fldI ?_
  walk_at "s"
  refine ⟨_, cl, na3, rfl, ?_⟩
  walk_at "s"
  rw [List.length_map]
  refine use_isstate ?_
  walk_at "s"
  cases ho : outS T.length s with
  | true =>
    have e1 : (decide (0 ≤ s) && decide (s < (T.length : Int))) = false := by simpa only [outS, Bool.not_eq_true'] using ho
    rw [e1, if_pos (by decide)]
    refine swx_raise er1 ?_
    walk_at "s"
    exact r1 ho
  | false =>
    have e1 : (decide (0 ≤ s) && decide (s < (T.length : Int))) = true := by simpa only [outS, Bool.not_eq_false'] using ho
    rw [e1, if_neg (by decide)]
    walk_at "s"
    refine swx_forQ ?_
    walk_at "s"
    refine ⟨Str, row, D.str, hx, fun j δ' m' => (∃ x3 : Option D, δ' = [some (srvD a.c_Service ws T), some xr, some (.int s), x3] ∧ m' = m) ∧ ∀ l ∈ row.take j, l ∈ ws, ?_, ?_, ?_, ?_⟩
    · exact ⟨⟨_, rfl, rfl⟩, fun l hl => by simp at hl⟩
    · rintro j δ' m' ⟨⟨x3, rfl, rfl⟩, _⟩
      exact hx
    · rintro j l δ' m' hl ⟨⟨x3, rfl, rfl⟩, before⟩
      walk_at "s"
      refine swx_if ?_
      walk_at "s"
      refine ew_fldI ?_
      walk_at "s"
      refine ⟨_, cl, na2, rfl, ?_⟩
      refine nin_D (x := .inr l) ?_
      by_cases hm : l ∈ ws
      · rw [place_of sv.nd hm]
        walk_at "s"
        rw [if_neg (by simp)]
        walk_at "s"
        refine ⟨⟨_, rfl, rfl⟩, fun y hy => ?_⟩
        rw [List.take_add_one, hl] at hy
        rcases List.mem_append.mp hy with hy | hy
        · exact before y hy
        · simp at hy
          rw [hy]
          exact hm
      · rw [no_place hm]
        walk_at "s"
        rw [if_pos (by simp)]
        refine swx_raise er2 ?_
        walk_at "s"
        refine r2 ho l ?_
        unfold strayF
        obtain ⟨hj, e⟩ := List.getElem?_eq_some_iff.mp hl
        rw [List.find?_eq_some_iff_getElem]
        refine ⟨by simpa using hm, j, hj, e, fun i hi => ?_⟩
        have : row[i] ∈ ws := before _ (List.mem_take_iff_getElem.mpr ⟨i, by omega, rfl⟩)
        simpa using this
    · rintro δ' m' ⟨⟨x3, rfl, rfl⟩, before⟩
      refine q ho (List.find?_eq_none.mpr fun l hl => ?_)
      have := before l (by rw [List.take_length]; exact hl)
      simpa using this
theorem ok_Service_check (T : Txt K mg a) : Def P w K mg base 4 a.f_Service_check ["self", "row", "state"] (FX.quiet (FXn 3 (F_check a.c_Service a.c_InvalidState a.c_UnknownCall))) := (okx_Service_check (P := P) (w := w) (base := base) T).quiet

end
end DL

set_option Elab.async false
set_option linter.all false
set_option maxRecDepth 100000
set_option maxHeartbeats 4000000
set_option autoImplicit false
namespace DL
open PySem PySem.Spec PyProof.Rows L2
local macro_rules | `(tactic| walk_at "m") => `(tactic| first
  | with_reducible exact MAt.last | with_reducible exact MUp.last
  | exact MAt.zero | exact MUp.zero | exact MAt.last | exact MUp.last
  | (apply MAt.cons; walk_at "m") | (apply MUp.cons; walk_at "m")
  | (apply MAt.app; walk_at "m") | (apply MUp.app; walk_at "m")
  | assumption)
local macro_rules | `(tactic| walk_at "s1") => `(tactic| with_reducible first
  | refine sw_seq ?_ | refine sw_next ?_ | refine sw_ret ?_ | refine sw_retN ?_ | refine sw_asg ?_ | refine sw_asgG ?_ | refine sw_drop ?_ | refine sw_break ?_ | refine sw_cont ?_ | refine sw_par ?_ | refine sw_par3 ?_
  | refine tw_test ?_ | refine tw_B ?_ | refine tw_and ?_ | refine tw_or ?_ | refine tw_not ?_ | refine tw_yes ?_
  | refine ew_op ?_ | refine ew_un ?_ | refine ew_int ?_ | refine ew_non ?_ | refine ew_bl ?_ | refine ew_str ?_ | refine ew_ty ?_ | refine ew_ref ?_ | refine ew_cb ?_ | refine ew_if ?_ | refine ew_andV ?_ | refine ew_orV ?_ | refine ew_notV ?_ | refine ew_chain ?_ | refine ew_sl ?_ | refine pw_no ?_ | refine pw_part ?_
  | refine ew_call0 ?_ | refine ew_kw0 ?_
  | refine aw_nil ?_ | refine aw_cons ?_ | refine ew_bm ?_ | refine ew_bm0 ?_ | refine gs_L ?_
  | refine gs_nil ?_ | refine gs_cons ?_ | refine gw_name ?_
  | refine ow_addI ?_ | refine ow_odd ?_ | refine ow_i0 ?_ | refine ow_b0 ?_ | refine oq_eqI ?_ | refine oq_neI ?_ | refine oq_eqS ?_ | refine oq_neS ?_ | refine ow_isN ?_ | refine ow_notN ?_ | refine uw_neg ?_ | refine cw_int ?_ | refine cw_intB ?_ | refine cw_abs ?_ | refine cw_mx2 ?_ | refine cw_mn2 ?_ | refine cw_lenL ?_ | refine cw_lenR ?_ | refine cw_listL ?_ | refine cw_listT ?_ | refine lw_L ?_ | refine ew_revL ?_)
local macro_rules | `(tactic| walk_at "s2") => `(tactic| first
  | ((with_reducible refine' ew_var ?hv ?_); (case hv => exact rfl))
  | ((with_reducible refine' oi_M ?hm ?hi ?_); (case hm => walk_at "m"); (case hi => exact rfl))
  | ((with_reducible refine' ow_ixT ?hi ?_); (case hi => exact rfl))
  | ((with_reducible refine' cl_M ?hm ?_); (case hm => walk_at "m"))
  | ((with_reducible refine' ci_M ?hm ?_); (case hm => walk_at "m"))
  | ((with_reducible refine' ma_app ?hm ?ll ?_); (case hm => walk_at "m"); (case ll => walk_at "l"))
  | ((with_reducible refine' And.intro (ty_A ?hm) ?_); (case hm => walk_at "m"))
  | (with_reducible refine' Exists.intro _ (And.intro ?he ?_); (case he => exact rfl))
  | (with_reducible refine' Exists.intro _ (Exists.intro _ (And.intro ?he ?_)); (case he => exact rfl))
  | (with_reducible refine' Exists.intro _ (Exists.intro _ (Exists.intro _ (And.intro ?he ?_))); (case he => exact rfl))
  | ((with_reducible refine' Exists.intro _ (Exists.intro _ (Exists.intro _ (Exists.intro _ (Exists.intro _ (And.intro ?e1 (And.intro ?e2 (And.intro ?hm (And.intro ?hi ?_))))))))); (case e1 => exact rfl); (case e2 => exact rfl); (case hm => walk_at "m"); (case hi => exact rfl)))
local macro_rules | `(tactic| walk_at "l") => `(tactic| first | assumption | exact lt_sz (by omega) | exact lt_sz (by simp only [List.length_map, List.length_append, List.length_cons, List.length_nil, List.length_take, List.length_drop, List.length_range]; omega))
local macro_rules | `(tactic| walk_at "s") => `(tactic| repeat (first | walk_at "s1" | walk_at "s2"))
local macro_rules | `(tactic| walk_at "sx") => `(tactic| with_reducible first
  | refine swx_of ?_ | refine swx_seq ?_ | refine swx_drop ?_ | refine swx_asg ?_ | refine swx_ret ?_ | refine ewx_fun ?_ | refine ewx_meth ?_ | refine ewx_make ?_ | refine ewx_sub ?_)
local macro_rules | `(tactic| walk_at "s") => `(tactic| repeat (first | walk_at "s1" | walk_at "s2" | walk_at "sx"))
local macro_rules | `(tactic| walk_at "g1") => `(tactic| with_reducible first
  | refine ew_tup2 ?_ | refine ew_tup3 ?_ | refine ew_tup4 ?_ | refine ew_fldI ?_ | refine sw_fldA ?_ | refine ew_dget1 ?_ | refine ew_dget2 ?_ | refine ow_isN ?_)
local macro_rules | `(tactic| walk_at "g2") => `(tactic| first
  | ((with_reducible refine' gw_tup ?e ?_); (case e => exact rfl))
  | ((with_reducible refine' oi_L ?e ?_); (case e => exact rfl))
  | ((refine' Exists.intro _ (And.intro ?cl (And.intro ?na (And.intro ?e ?_)))); (case cl => assumption); (case na => assumption); (case e => exact rfl))
  | ((refine' Exists.intro _ (Exists.intro _ (Exists.intro _ (Exists.intro _ (And.intro ?e (And.intro ?hm (And.intro ?cl (And.intro ?na (And.intro ?l ?_))))))))); (case e => exact rfl); (case hm => walk_at "m"); (case cl => assumption); (case na => assumption); (case l => exact Nat.le_of_ble_eq_true rfl)))
local macro_rules | `(tactic| walk_at "g") => `(tactic| repeat (first | walk_at "s1" | walk_at "s2" | walk_at "sx" | walk_at "g1" | walk_at "g2"))

section
variable {P : Program} {w : World} {K : PySem.W.Frag} {mg : Str → Option Value} {base : Heap} {a : Ads}
theorem outS_nat {n : Nat} {s : Int} (h : outS n s = false) : ∃ k : Nat, s = (k : Nat) ∧ k < n := by
  simp only [outS, Bool.not_eq_false', Bool.and_eq_true, decide_eq_true_eq] at h
  exact ⟨s.toNat, by omega, by omega⟩
def F_run (C iS uC : Addr) : FX := fun ds m Q R => ∃ (ws : List Str) (T : Tab) (row : List Str) (s : Int) (xr : D), ds = [srvD C ws T, xr, .int s] ∧ SeqIn m xr (row.map .str) ∧ Srv ws T ∧ row.length ≤ 1000 ∧
  (outS T.length s = true → R iS (.int s) m) ∧ (outS T.length s = false → ∀ l, strayF ws row = some l → R uC (.str l) m) ∧ (outS T.length s = false → strayF ws row = none → ∀ z, Q (.tup [.adr z, .int ((runF ws T row s.toNat).2 : Nat)]) (m ++ [(z, .lst ((runF ws T row s.toNat).1.map ansD))]))
theorem okx_Service_run (T : Txt K mg a) : DefX P w K mg base 5 a.f_Service_run ["self", "row", "state"] (FXn 3 (F_run a.c_Service a.c_InvalidState a.c_UnknownCall)) := by
  have nd := sc_Service_run.nd
  have CX_Service_check := okx_Service_check (P := P) (w := w) (base := base) T
  refine defOkX T.h_Service_run sc_Service_run (fun _ _ _ _ h => h.1) (fun W cdv A outer s H E hr tkW own => ⟨_, (pss_cons (ps_expr (kx_methX K rfl (pv 0) T.cl_Service T.m_Service_check CX_Service_check T.kb_Service_check_3 (hr.mono (by decide)) (pa_cons (pv 1) (pa_cons (pv 2) pa_nil)) pk_nil tkW))
    (pss_cons (ps_set (i := 3) nd rfl (Or.inl rfl) (pe_lst pa_nil))
    (pss_cons (ps_for own rfl (kx_pi K rfl (pv 1)) (pg_name (i := 4) nd rfl (Or.inl rfl)) (pss_cons (ps_asg (pe_ix (kx_ix K rfl hr.units) (pe_ix (kx_ix K rfl hr.units) (kx_fld K rfl (pv 0)) (pv 2) (fun _ _ => rfl)) (pe_ix (kx_ix K rfl hr.units) (kx_fld K rfl (pv 0)) (pv 4) (fun _ _ => rfl)) (fun _ _ => rfl)) (kx_tup K rfl (n := 2) (by rfl) (pgs_cons (pg_name (i := 2) nd rfl (Or.inl rfl)) (pgs_cons (pg_name (i := 5) nd rfl (Or.inl rfl)) pgs_nil))))
    (pss_one (ps_expr (kx_bm K rfl PySem.F.plainAttrs_list PySem.F.slot_list_append PySem.F.type_list_append mt_append (pv 3) (pa_cons (pv 5) pa_nil))))))
    (pss_one (ps_ret (pe_tup (pa_cons (pv 3) (pa_cons (pv 2) pa_nil)))))))), rfl⟩) (fun ds m Q R h => ?_)
  replace h := h.2
  clear nd
  have cl := T.cl_Service
  have na2 := T.na_Service__places
  have na3 := T.na_Service__rows
  obtain ⟨ws, T, row, s0, xr, rfl, hx, sv, hlen, r1, r2, q⟩ := h
  refine swx_seq (swx_drop (ewx_meth ?_))
  walk_at "s"
  refine ⟨_, .inl rfl, rfl, ?_⟩
  walk_at "s"
  refine ⟨rfl, rfl, rfl, ws, T, row, s0, xr, rfl, hx, sv, r1, r2, fun ho hno => ?_⟩
  obtain ⟨s, rfl, hs⟩ := outS_nat ho
  have hrow := stray_none hno
  have q := q ho hno
  rw [Int.toNat_natCast] at q
  walk_at "s"
  refine ew_lstM ?_
  walk_at "s"
  refine ⟨Nat.le_of_ble_eq_true rfl, fun z => ?_⟩
  walk_at "s"
  refine sw_forQ ?_
  walk_at "s"
  refine ⟨Str, row, D.str, hx.app, fun j δ' m' => ∃ x4 x5 : Option D, δ' = [some (srvD a.c_Service ws T), some xr, some (.int ((runF ws T (row.take j) s).2 : Nat)), some (.adr z), x4, x5] ∧ m' = m ++ [(z, .lst ((runF ws T (row.take j) s).1.map ansD))], ?_, ?_, ?_, ?_⟩
  · exact ⟨_, _, rfl, rfl⟩
  · rintro j δ' m' ⟨x4, x5, rfl, rfl⟩
    exact hx.app
  · rintro j l δ' m' hl ⟨x4, x5, rfl, rfl⟩
    have hlt := runF_lt sv.toSvc hs row hrow j
    have hln := runF_len ws T s (row.take j)
    rw [List.length_take] at hln
    have hlm := hrow l (List.mem_of_getElem? hl)
    obtain ⟨r, h1, h2, h3⟩ := stp_at sv.toSvc hlt hlm
    have et : row.take (j + 1) = row.take j ++ [l] := by rw [List.take_add_one, hl]; rfl
    walk_at "s"
    refine ew_fldI ?_
    walk_at "s"
    refine ⟨_, cl, na3, rfl, ?_⟩
    walk_at "s"
    refine oi_L (at_map (f := rowD) h1) ?_
    walk_at "s"
    refine ew_fldI ?_
    walk_at "s"
    refine ⟨_, cl, na2, rfl, ?_⟩
    walk_at "s"
    refine ow_ixDs (place_of sv.nd hlm) ?_
    refine oi_L (at_map (f := stepD) h2) ?_
    refine gw_tup rfl ?_
    walk_at "s"
    show ∃ x4 x5 : Option D, _ = _ ∧ _ = _
    rw [et, runF_snoc]
    refine ⟨_, _, rfl, ?_⟩
    rw [List.map_append]
    rfl
  · rintro δ' m' ⟨x4, x5, rfl, rfl⟩
    rw [List.take_length]
    walk_at "s"
    refine ew_tup ?_
    walk_at "s"
    exact ⟨Nat.le_of_ble_eq_true rfl, q z⟩
theorem ok_Service_run (T : Txt K mg a) : Def P w K mg base 5 a.f_Service_run ["self", "row", "state"] (FX.quiet (FXn 3 (F_run a.c_Service a.c_InvalidState a.c_UnknownCall))) := (okx_Service_run (P := P) (w := w) (base := base) T).quiet

end
end DL

set_option Elab.async false
set_option linter.all false
set_option maxRecDepth 100000
set_option maxHeartbeats 4000000
set_option autoImplicit false
namespace DL
open PySem PySem.Spec PyProof.Rows L2
local macro_rules | `(tactic| walk_at "m") => `(tactic| first
  | with_reducible exact MAt.last | with_reducible exact MUp.last
  | exact MAt.zero | exact MUp.zero | exact MAt.last | exact MUp.last
  | (apply MAt.cons; walk_at "m") | (apply MUp.cons; walk_at "m")
  | (apply MAt.app; walk_at "m") | (apply MUp.app; walk_at "m")
  | assumption)
local macro_rules | `(tactic| walk_at "s1") => `(tactic| with_reducible first
  | refine sw_seq ?_ | refine sw_next ?_ | refine sw_ret ?_ | refine sw_retN ?_ | refine sw_asg ?_ | refine sw_asgG ?_ | refine sw_drop ?_ | refine sw_break ?_ | refine sw_cont ?_ | refine sw_par ?_ | refine sw_par3 ?_
  | refine tw_test ?_ | refine tw_B ?_ | refine tw_and ?_ | refine tw_or ?_ | refine tw_not ?_ | refine tw_yes ?_
  | refine ew_op ?_ | refine ew_un ?_ | refine ew_int ?_ | refine ew_non ?_ | refine ew_bl ?_ | refine ew_str ?_ | refine ew_ty ?_ | refine ew_ref ?_ | refine ew_cb ?_ | refine ew_if ?_ | refine ew_andV ?_ | refine ew_orV ?_ | refine ew_notV ?_ | refine ew_chain ?_ | refine ew_sl ?_ | refine pw_no ?_ | refine pw_part ?_
  | refine ew_call0 ?_ | refine ew_kw0 ?_
  | refine aw_nil ?_ | refine aw_cons ?_ | refine ew_bm ?_ | refine ew_bm0 ?_ | refine gs_L ?_
  | refine gs_nil ?_ | refine gs_cons ?_ | refine gw_name ?_
  | refine ow_addI ?_ | refine ow_odd ?_ | refine ow_i0 ?_ | refine ow_b0 ?_ | refine oq_eqI ?_ | refine oq_neI ?_ | refine oq_eqS ?_ | refine oq_neS ?_ | refine ow_isN ?_ | refine ow_notN ?_ | refine uw_neg ?_ | refine cw_int ?_ | refine cw_intB ?_ | refine cw_abs ?_ | refine cw_mx2 ?_ | refine cw_mn2 ?_ | refine cw_lenL ?_ | refine cw_lenR ?_ | refine cw_listL ?_ | refine cw_listT ?_ | refine lw_L ?_ | refine ew_revL ?_)
local macro_rules | `(tactic| walk_at "s2") => `(tactic| first
  | ((with_reducible refine' ew_var ?hv ?_); (case hv => exact rfl))
  | ((with_reducible refine' oi_M ?hm ?hi ?_); (case hm => walk_at "m"); (case hi => exact rfl))
  | ((with_reducible refine' ow_ixT ?hi ?_); (case hi => exact rfl))
  | ((with_reducible refine' cl_M ?hm ?_); (case hm => walk_at "m"))
  | ((with_reducible refine' ci_M ?hm ?_); (case hm => walk_at "m"))
  | ((with_reducible refine' ma_app ?hm ?ll ?_); (case hm => walk_at "m"); (case ll => walk_at "l"))
  | ((with_reducible refine' And.intro (ty_A ?hm) ?_); (case hm => walk_at "m"))
  | (with_reducible refine' Exists.intro _ (And.intro ?he ?_); (case he => exact rfl))
  | (with_reducible refine' Exists.intro _ (Exists.intro _ (And.intro ?he ?_)); (case he => exact rfl))
  | (with_reducible refine' Exists.intro _ (Exists.intro _ (Exists.intro _ (And.intro ?he ?_))); (case he => exact rfl))
  | ((with_reducible refine' Exists.intro _ (Exists.intro _ (Exists.intro _ (Exists.intro _ (Exists.intro _ (And.intro ?e1 (And.intro ?e2 (And.intro ?hm (And.intro ?hi ?_))))))))); (case e1 => exact rfl); (case e2 => exact rfl); (case hm => walk_at "m"); (case hi => exact rfl)))
local macro_rules | `(tactic| walk_at "l") => `(tactic| first | assumption | exact lt_sz (by omega) | exact lt_sz (by simp only [List.length_map, List.length_append, List.length_cons, List.length_nil, List.length_take, List.length_drop, List.length_range]; omega))
local macro_rules | `(tactic| walk_at "s") => `(tactic| repeat (first | walk_at "s1" | walk_at "s2"))
local macro_rules | `(tactic| walk_at "sx") => `(tactic| with_reducible first
  | refine swx_of ?_ | refine swx_seq ?_ | refine swx_drop ?_ | refine swx_asg ?_ | refine swx_ret ?_ | refine ewx_fun ?_ | refine ewx_meth ?_ | refine ewx_make ?_ | refine ewx_sub ?_)
local macro_rules | `(tactic| walk_at "s") => `(tactic| repeat (first | walk_at "s1" | walk_at "s2" | walk_at "sx"))
local macro_rules | `(tactic| walk_at "g1") => `(tactic| with_reducible first
  | refine ew_tup2 ?_ | refine ew_tup3 ?_ | refine ew_tup4 ?_ | refine ew_fldI ?_ | refine sw_fldA ?_ | refine ew_dget1 ?_ | refine ew_dget2 ?_ | refine ow_isN ?_)
local macro_rules | `(tactic| walk_at "g2") => `(tactic| first
  | ((with_reducible refine' gw_tup ?e ?_); (case e => exact rfl))
  | ((with_reducible refine' oi_L ?e ?_); (case e => exact rfl))
  | ((refine' Exists.intro _ (And.intro ?cl (And.intro ?na (And.intro ?e ?_)))); (case cl => assumption); (case na => assumption); (case e => exact rfl))
  | ((refine' Exists.intro _ (Exists.intro _ (Exists.intro _ (Exists.intro _ (And.intro ?e (And.intro ?hm (And.intro ?cl (And.intro ?na (And.intro ?l ?_))))))))); (case e => exact rfl); (case hm => walk_at "m"); (case cl => assumption); (case na => assumption); (case l => exact Nat.le_of_ble_eq_true rfl)))
local macro_rules | `(tactic| walk_at "g") => `(tactic| repeat (first | walk_at "s1" | walk_at "s2" | walk_at "sx" | walk_at "g1" | walk_at "g2"))

section
variable {P : Program} {w : World} {K : PySem.W.Frag} {mg : Str → Option Value} {base : Heap} {a : Ads}
theorem stepAt {N : Tab} {k i : Nat} {r : List Step} (hw : ∀ r ∈ N, r.length = k) (hi : i < k) (hr : r ∈ N) : r[i]? = some (r.getD i (0, none)) := by
  have h : i < r.length := by rw [hw r hr]; exact hi
  rw [List.getD_eq_getElem?_getD, List.getElem?_eq_getElem h]
  rfl
def F_getitem (C uC : Addr) : FX := fun ds m Q R => ∃ (ws : List Str) (N : Tab) (l : Str), ds = [srvD C ws N, .str l] ∧ Srv ws N ∧ (l ∉ ws → R uC (.str l) m) ∧ (l ∈ ws → ∀ z : Addr, Q (.adr z) (m ++ [(z, .lst (N.map fun r => stepD (r.getD (ws.idxOf l) (0, none))))]))
theorem okx_Service___getitem__ (T : Txt K mg a) : DefX P w K mg base 4 a.f_Service___getitem__ ["self", "at"] (FXn 2 (F_getitem a.c_Service a.c_UnknownCall)) := by
  have nd := sc_Service___getitem__.nd
  have C_CutError___init__ := ok_CutError___init__ (P := P) (w := w) (base := base) T
  refine defOkX T.h_Service___getitem__ sc_Service___getitem__ (fun _ _ _ _ h => h.1) (fun W cdv A outer s H E hr tkW own => ⟨_, (pss_cons (ps_if (pt_cmpR (kx_notIn K rfl P w rfl rfl hr.units) (pv 1) (kx_fld K rfl (pv 0)) (by with_unfolding_all rfl)) (pss_one (kx_raise K rfl rfl tkW T.er_UnknownCall C_CutError___init__ (hr.mono (by decide)) rfl T.g_UnknownCall (pa_cons (pv 1) pa_nil))) pss_nil)
    (pss_one (ps_ret (pe_lc (own := [("row", 2)]) (g := (gName 2)) (tt := tYes) rfl nd (kx_pi K rfl (kx_fld K rfl (pv 0))) (blkOk_by (own := [("row", 2)]) (N := N_Service___getitem__) (sc := defScope s_Service___getitem__) (by decide +kernel)) (fun _ _ _ _ _ => (pg_name (i := 2) nd rfl (by first | exact Or.inl rfl | exact Or.inr rfl))) (fun _ _ _ _ _ => pts_nil) (fun _ _ _ _ _ => (pe_ix (kx_ix K rfl hr.units) (pv 2) (pe_ix (kx_ix K rfl hr.units) (kx_fld K rfl (pv 0)) (pv 1) (fun _ _ => rfl)) (fun _ _ => rfl))))))), rfl⟩) (fun ds m Q R h => ?_)
  replace h := h.2
  clear nd
  have cl := T.cl_Service
  have na2 := T.na_Service__places
  have na3 := T.na_Service__rows
  have er2 := T.er_UnknownCall
  obtain ⟨ws, N, l, rfl, sv, r1, q⟩ := h
  have hle := sv.le
  refine swx_seq (swx_if ?_)
  walk_at "s"
  refine ew_fldI ?_
  walk_at "s"
  refine ⟨_, cl, na2, rfl, ?_⟩
  refine nin_D (x := .inr l) ?_
  by_cases hm : l ∈ ws
  · have hi := List.idxOf_lt_length_of_mem hm
    rw [place_of sv.nd hm]
    walk_at "s"
    rw [if_neg (by simp)]
    walk_at "s"
    refine ew_lcPM (tame_name (by decide)) (iw_any ?_)
    refine ew_fldI ?_
    walk_at "s"
    refine ⟨_, cl, na3, rfl, _, .inl rfl, List Step, N, rowD, fun r => stepD (r.getD (ws.idxOf l) (0, none)), fun _ => true, rfl, le_sz (by omega), ?_, ?_⟩
    · intro r acc z hr
      walk_at "s"
      refine ⟨rfl, rfl, fun _ => ?_⟩
      walk_at "s"
      refine ew_fldI ?_
      walk_at "s"
      refine ⟨_, cl, na2, rfl, ?_⟩
      walk_at "s"
      refine ow_ixDs (place_of sv.nd hm) ?_
      refine oi_L (at_map (f := stepD) (stepAt sv.wid hi hr)) ?_
      exact ⟨rfl, rfl⟩
    · intro z
      rw [List.filter_eq_self.mpr fun _ _ => rfl]
      exact q hm z
  · rw [no_place hm]
    walk_at "s"
    rw [if_pos (by simp)]
    refine swx_raise er2 ?_
    walk_at "s"
    exact r1 hm

end
end DL

set_option Elab.async false
set_option linter.all false
set_option maxRecDepth 100000
set_option maxHeartbeats 4000000
set_option autoImplicit false
namespace DL
open PySem PySem.Spec PyProof.Rows L2
local macro_rules | `(tactic| walk_at "m") => `(tactic| first
  | with_reducible exact MAt.last | with_reducible exact MUp.last
  | exact MAt.zero | exact MUp.zero | exact MAt.last | exact MUp.last
  | (apply MAt.cons; walk_at "m") | (apply MUp.cons; walk_at "m")
  | (apply MAt.app; walk_at "m") | (apply MUp.app; walk_at "m")
  | assumption)
local macro_rules | `(tactic| walk_at "s1") => `(tactic| with_reducible first
  | refine sw_seq ?_ | refine sw_next ?_ | refine sw_ret ?_ | refine sw_retN ?_ | refine sw_asg ?_ | refine sw_asgG ?_ | refine sw_drop ?_ | refine sw_break ?_ | refine sw_cont ?_ | refine sw_par ?_ | refine sw_par3 ?_
  | refine tw_test ?_ | refine tw_B ?_ | refine tw_and ?_ | refine tw_or ?_ | refine tw_not ?_ | refine tw_yes ?_
  | refine ew_op ?_ | refine ew_un ?_ | refine ew_int ?_ | refine ew_non ?_ | refine ew_bl ?_ | refine ew_str ?_ | refine ew_ty ?_ | refine ew_ref ?_ | refine ew_cb ?_ | refine ew_if ?_ | refine ew_andV ?_ | refine ew_orV ?_ | refine ew_notV ?_ | refine ew_chain ?_ | refine ew_sl ?_ | refine pw_no ?_ | refine pw_part ?_
  | refine ew_call0 ?_ | refine ew_kw0 ?_
  | refine aw_nil ?_ | refine aw_cons ?_ | refine ew_bm ?_ | refine ew_bm0 ?_ | refine gs_L ?_
  | refine gs_nil ?_ | refine gs_cons ?_ | refine gw_name ?_
  | refine ow_addI ?_ | refine ow_odd ?_ | refine ow_i0 ?_ | refine ow_b0 ?_ | refine oq_eqI ?_ | refine oq_neI ?_ | refine oq_eqS ?_ | refine oq_neS ?_ | refine ow_isN ?_ | refine ow_notN ?_ | refine uw_neg ?_ | refine cw_int ?_ | refine cw_intB ?_ | refine cw_abs ?_ | refine cw_mx2 ?_ | refine cw_mn2 ?_ | refine cw_lenL ?_ | refine cw_lenR ?_ | refine cw_listL ?_ | refine cw_listT ?_ | refine lw_L ?_ | refine ew_revL ?_)
local macro_rules | `(tactic| walk_at "s2") => `(tactic| first
  | ((with_reducible refine' ew_var ?hv ?_); (case hv => exact rfl))
  | ((with_reducible refine' oi_M ?hm ?hi ?_); (case hm => walk_at "m"); (case hi => exact rfl))
  | ((with_reducible refine' ow_ixT ?hi ?_); (case hi => exact rfl))
  | ((with_reducible refine' cl_M ?hm ?_); (case hm => walk_at "m"))
  | ((with_reducible refine' ci_M ?hm ?_); (case hm => walk_at "m"))
  | ((with_reducible refine' ma_app ?hm ?ll ?_); (case hm => walk_at "m"); (case ll => walk_at "l"))
  | ((with_reducible refine' And.intro (ty_A ?hm) ?_); (case hm => walk_at "m"))
  | (with_reducible refine' Exists.intro _ (And.intro ?he ?_); (case he => exact rfl))
  | (with_reducible refine' Exists.intro _ (Exists.intro _ (And.intro ?he ?_)); (case he => exact rfl))
  | (with_reducible refine' Exists.intro _ (Exists.intro _ (Exists.intro _ (And.intro ?he ?_))); (case he => exact rfl))
  | ((with_reducible refine' Exists.intro _ (Exists.intro _ (Exists.intro _ (Exists.intro _ (Exists.intro _ (And.intro ?e1 (And.intro ?e2 (And.intro ?hm (And.intro ?hi ?_))))))))); (case e1 => exact rfl); (case e2 => exact rfl); (case hm => walk_at "m"); (case hi => exact rfl)))
local macro_rules | `(tactic| walk_at "l") => `(tactic| first | assumption | exact lt_sz (by omega) | exact lt_sz (by simp only [List.length_map, List.length_append, List.length_cons, List.length_nil, List.length_take, List.length_drop, List.length_range]; omega))
local macro_rules | `(tactic| walk_at "s") => `(tactic| repeat (first | walk_at "s1" | walk_at "s2"))
local macro_rules | `(tactic| walk_at "sx") => `(tactic| with_reducible first
  | refine swx_of ?_ | refine swx_seq ?_ | refine swx_drop ?_ | refine swx_asg ?_ | refine swx_ret ?_ | refine ewx_fun ?_ | refine ewx_meth ?_ | refine ewx_make ?_ | refine ewx_sub ?_)
local macro_rules | `(tactic| walk_at "s") => `(tactic| repeat (first | walk_at "s1" | walk_at "s2" | walk_at "sx"))
local macro_rules | `(tactic| walk_at "g1") => `(tactic| with_reducible first
  | refine ew_tup2 ?_ | refine ew_tup3 ?_ | refine ew_tup4 ?_ | refine ew_fldI ?_ | refine sw_fldA ?_ | refine ew_dget1 ?_ | refine ew_dget2 ?_ | refine ow_isN ?_)
local macro_rules | `(tactic| walk_at "g2") => `(tactic| first
  | ((with_reducible refine' gw_tup ?e ?_); (case e => exact rfl))
  | ((with_reducible refine' oi_L ?e ?_); (case e => exact rfl))
  | ((refine' Exists.intro _ (And.intro ?cl (And.intro ?na (And.intro ?e ?_)))); (case cl => assumption); (case na => assumption); (case e => exact rfl))
  | ((refine' Exists.intro _ (Exists.intro _ (Exists.intro _ (Exists.intro _ (And.intro ?e (And.intro ?hm (And.intro ?cl (And.intro ?na (And.intro ?l ?_))))))))); (case e => exact rfl); (case hm => walk_at "m"); (case cl => assumption); (case na => assumption); (case l => exact Nat.le_of_ble_eq_true rfl)))
local macro_rules | `(tactic| walk_at "g") => `(tactic| repeat (first | walk_at "s1" | walk_at "s2" | walk_at "sx" | walk_at "g1" | walk_at "g2"))

section
variable {P : Program} {w : World} {K : PySem.W.Frag} {mg : Str → Option Value} {base : Heap} {a : Ads}
/-! ### the same table with its states but the first one in another sequence -/
theorem idx_inj {π : List Nat} {a b : Nat} (ha : a ∈ π) (hb : b ∈ π) (e : π.idxOf a = π.idxOf b) : a = b := by
  have h1 := List.getElem_idxOf (List.idxOf_lt_length_of_mem ha)
  have h2 := List.getElem_idxOf (List.idxOf_lt_length_of_mem hb)
  rw [← h1, ← h2]
  congr 1
theorem idx_map_inj {α : Type} [BEq α] [LawfulBEq α] {f : α → Nat} : ∀ {l : List α} {x : α}, (∀ y ∈ l, f y = f x → y = x) → (l.map f).idxOf (f x) = l.idxOf x
  | [], _, _ => rfl
  | y :: l, x, h => by
    rw [List.map_cons, List.idxOf_cons, List.idxOf_cons]
    have ih := idx_map_inj (f := f) (l := l) (x := x) fun z hz => h z (List.mem_cons_of_mem _ hz)
    by_cases e : y = x
    · rw [e]; simp
    · have e2 : f y ≠ f x := fun c => e (h y List.mem_cons_self c)
      have b1 : (f y == f x) = false := by simpa using e2
      have b2 : (y == x) = false := by simpa using e
      rw [b1, b2, ih]
/-- a table whose states are told in this sequence -/
def permT (π : List Nat) (L : Tab) : Tab := π.map fun a => (L.getD a []).map fun p => (π.idxOf p.1, p.2)
structure Turn (π : List Nat) (n : Nat) : Prop where
  perm : π.Perm (List.range n)
  head : π[0]? = some 0
theorem Turn.mem {π n} (h : Turn π n) {a : Nat} : a ∈ π ↔ a < n := by rw [h.perm.mem_iff, List.mem_range]
theorem Turn.len {π n} (h : Turn π n) : π.length = n := by rw [h.perm.length_eq, List.length_range]
theorem Turn.nd {π n} (h : Turn π n) : π.Nodup := h.perm.nodup_iff.mpr List.nodup_range
theorem Turn.zero {π n} (h : Turn π n) : π.idxOf 0 = 0 := by
  cases π with
  | nil => cases h.head
  | cons a l =>
    have e : a = 0 := by have := h.head; simpa using this
    rw [e, List.idxOf_cons]
    simp
theorem permT_len (π L) : (permT π L).length = π.length := by unfold permT; rw [List.length_map]
theorem permT_get {π : List Nat} {L : Tab} {a : Nat} (ha : a ∈ π) : (permT π L).getD (π.idxOf a) [] = (L.getD a []).map fun p => (π.idxOf p.1, p.2) := by
  have hl := List.idxOf_lt_length_of_mem ha
  unfold permT
  rw [List.getD_eq_getElem?_getD, List.getElem?_map, List.getElem?_eq_getElem hl, List.getElem_idxOf hl]
  rfl
theorem permT_ok {π : List Nat} {L : Tab} (h : TabOk L) (t : Turn π L.length) : TabOk (permT π L) := by
  refine ⟨by rw [permT_len, t.len]; exact h.pos, fun r hr s hs => ?_⟩
  rw [permT_len]
  obtain ⟨a, ha, rfl⟩ := List.mem_map.mp hr
  obtain ⟨p, hp, rfl⟩ := List.mem_map.mp hs
  have hal := t.mem.mp ha
  rw [List.getD_eq_getElem?_getD, List.getElem?_eq_getElem hal] at hp
  exact List.idxOf_lt_length_of_mem (t.mem.mpr (h.lt _ (List.getElem_mem hal) p hp))
theorem ordT_perm {π : List Nat} {L : Tab} (h : TabOk L) (t : Turn π L.length) : ∀ u, ordT (permT π L) u = (ordT L u).map fun x => π.idxOf x
  | 0 => by
    show [0] = [π.idxOf 0]
    rw [t.zero]
  | u + 1 => by
    rw [ordT, ordT, ordT_perm h t u, List.length_map]
    by_cases c : u < (ordT L u).length
    · rw [if_pos c, if_pos c]
      have hal := ordT_lt h u _ (List.getElem_mem c)
      have e1 : ((ordT L u).map fun x => π.idxOf x).getD u 0 = π.idxOf (ordT L u)[u] := by
        rw [List.getD_eq_getElem?_getD, List.getElem?_map, List.getElem?_eq_getElem c]
        rfl
      have e2 : (ordT L u).getD u 0 = (ordT L u)[u] := by
        rw [List.getD_eq_getElem?_getD, List.getElem?_eq_getElem c]
        rfl
      have e3 : goals (permT π L) (π.idxOf (ordT L u)[u]) = (goals L (ordT L u)[u]).map fun x => π.idxOf x := by
        unfold goals
        rw [permT_get (t.mem.mpr hal), List.map_map, List.map_map]
        rfl
      rw [e1, e2, e3]
      have hin : ∀ x ∈ ordT L u ++ goals L (ordT L u)[u], x ∈ π := fun x hx => by
        rcases List.mem_append.mp hx with a | a
        · exact t.mem.mpr (ordT_lt h u x a)
        · exact t.mem.mpr (h.goals a)
      exact ext_map (f := fun x => π.idxOf x) _ _ fun x hx y hy e => idx_inj (hin x hx) (hin y hy) e
    · rw [if_neg c, if_neg c]
theorem normT_perm {π : List Nat} {L : Tab} (h : TabOk L) (t : Turn π L.length) : normT (permT π L) = normT L := by
  have ef : fin (permT π L) = (fin L).map fun x => π.idxOf x := by
    unfold fin
    rw [permT_len, t.len]
    exact ordT_perm h t _
  unfold normT
  rw [ef, List.map_map]
  refine List.map_congr_left fun a ha => ?_
  have hal := fin_lt h ha
  show ((permT π L).getD (π.idxOf a) []).map _ = _
  rw [permT_get (t.mem.mpr hal), List.map_map]
  refine List.map_congr_left fun p hp => ?_
  have hpl : p.1 < L.length := by
    rw [List.getD_eq_getElem?_getD, List.getElem?_eq_getElem hal] at hp
    exact h.lt _ (List.getElem_mem hal) p hp
  show (((fin L).map fun x => π.idxOf x).idxOf (π.idxOf p.1), p.2) = ((fin L).idxOf p.1, p.2)
  rw [idx_map_inj (f := fun x => π.idxOf x) fun y hy e => idx_inj (t.mem.mpr (fin_lt h hy)) (t.mem.mpr hpl) e]
/-- what is handed in for a table: the same service -/
structure HandOk (T T2 : Tab) : Prop where
  ok : TabOk T2
  len : T2.length ≤ 25
  wid : ∀ k, (∀ r ∈ T, r.length = k) → ∀ r ∈ T2, r.length = k
  norm : Normal T → normT T2 = T
def F_handed : FS := fun ds m Q => ∃ (p : Addr) (c : Cell) (rest : Mem) (n : Nat) (T : Tab), ds = [.adr p, tabD T] ∧ m = (p, c) :: rest ∧ Kit n c ∧ n + 150 < 2 ^ 40 ∧ TabOk T ∧ T.length ≤ 25 ∧ (∀ r ∈ T, r.length ≤ 14) ∧
  ∀ (T2 : Tab) (c' : Cell), HandOk T T2 → Kit (n + 150) c' → Q (tabD T2) ((p, c') :: rest)
end
end DL

set_option Elab.async false
set_option linter.all false
set_option maxRecDepth 100000
set_option maxHeartbeats 4000000
set_option autoImplicit false
namespace DL
open PySem PySem.Spec PyProof.Rows L2
local macro_rules | `(tactic| walk_at "m") => `(tactic| first
  | with_reducible exact MAt.last | with_reducible exact MUp.last
  | exact MAt.zero | exact MUp.zero | exact MAt.last | exact MUp.last
  | (apply MAt.cons; walk_at "m") | (apply MUp.cons; walk_at "m")
  | (apply MAt.app; walk_at "m") | (apply MUp.app; walk_at "m")
  | assumption)
local macro_rules | `(tactic| walk_at "s1") => `(tactic| with_reducible first
  | refine sw_seq ?_ | refine sw_next ?_ | refine sw_ret ?_ | refine sw_retN ?_ | refine sw_asg ?_ | refine sw_asgG ?_ | refine sw_drop ?_ | refine sw_break ?_ | refine sw_cont ?_ | refine sw_par ?_ | refine sw_par3 ?_
  | refine tw_test ?_ | refine tw_B ?_ | refine tw_and ?_ | refine tw_or ?_ | refine tw_not ?_ | refine tw_yes ?_
  | refine ew_op ?_ | refine ew_un ?_ | refine ew_int ?_ | refine ew_non ?_ | refine ew_bl ?_ | refine ew_str ?_ | refine ew_ty ?_ | refine ew_ref ?_ | refine ew_cb ?_ | refine ew_if ?_ | refine ew_andV ?_ | refine ew_orV ?_ | refine ew_notV ?_ | refine ew_chain ?_ | refine ew_sl ?_ | refine pw_no ?_ | refine pw_part ?_
  | refine ew_call0 ?_ | refine ew_kw0 ?_
  | refine aw_nil ?_ | refine aw_cons ?_ | refine ew_bm ?_ | refine ew_bm0 ?_ | refine gs_L ?_
  | refine gs_nil ?_ | refine gs_cons ?_ | refine gw_name ?_
  | refine ow_addI ?_ | refine ow_odd ?_ | refine ow_i0 ?_ | refine ow_b0 ?_ | refine oq_eqI ?_ | refine oq_neI ?_ | refine oq_eqS ?_ | refine oq_neS ?_ | refine ow_isN ?_ | refine ow_notN ?_ | refine uw_neg ?_ | refine cw_int ?_ | refine cw_intB ?_ | refine cw_abs ?_ | refine cw_mx2 ?_ | refine cw_mn2 ?_ | refine cw_lenL ?_ | refine cw_lenR ?_ | refine cw_listL ?_ | refine cw_listT ?_ | refine lw_L ?_ | refine ew_revL ?_)
local macro_rules | `(tactic| walk_at "s2") => `(tactic| first
  | ((with_reducible refine' ew_var ?hv ?_); (case hv => exact rfl))
  | ((with_reducible refine' oi_M ?hm ?hi ?_); (case hm => walk_at "m"); (case hi => exact rfl))
  | ((with_reducible refine' ow_ixT ?hi ?_); (case hi => exact rfl))
  | ((with_reducible refine' cl_M ?hm ?_); (case hm => walk_at "m"))
  | ((with_reducible refine' ci_M ?hm ?_); (case hm => walk_at "m"))
  | ((with_reducible refine' ma_app ?hm ?ll ?_); (case hm => walk_at "m"); (case ll => walk_at "l"))
  | ((with_reducible refine' And.intro (ty_A ?hm) ?_); (case hm => walk_at "m"))
  | (with_reducible refine' Exists.intro _ (And.intro ?he ?_); (case he => exact rfl))
  | (with_reducible refine' Exists.intro _ (Exists.intro _ (And.intro ?he ?_)); (case he => exact rfl))
  | (with_reducible refine' Exists.intro _ (Exists.intro _ (Exists.intro _ (And.intro ?he ?_))); (case he => exact rfl))
  | ((with_reducible refine' Exists.intro _ (Exists.intro _ (Exists.intro _ (Exists.intro _ (Exists.intro _ (And.intro ?e1 (And.intro ?e2 (And.intro ?hm (And.intro ?hi ?_))))))))); (case e1 => exact rfl); (case e2 => exact rfl); (case hm => walk_at "m"); (case hi => exact rfl)))
local macro_rules | `(tactic| walk_at "l") => `(tactic| first | assumption | exact lt_sz (by omega) | exact lt_sz (by simp only [List.length_map, List.length_append, List.length_cons, List.length_nil, List.length_take, List.length_drop, List.length_range]; omega))
local macro_rules | `(tactic| walk_at "s") => `(tactic| repeat (first | walk_at "s1" | walk_at "s2"))
local macro_rules | `(tactic| walk_at "sx") => `(tactic| with_reducible first
  | refine swx_of ?_ | refine swx_seq ?_ | refine swx_drop ?_ | refine swx_asg ?_ | refine swx_ret ?_ | refine ewx_fun ?_ | refine ewx_meth ?_ | refine ewx_make ?_ | refine ewx_sub ?_)
local macro_rules | `(tactic| walk_at "s") => `(tactic| repeat (first | walk_at "s1" | walk_at "s2" | walk_at "sx"))
local macro_rules | `(tactic| walk_at "g1") => `(tactic| with_reducible first
  | refine ew_tup2 ?_ | refine ew_tup3 ?_ | refine ew_tup4 ?_ | refine ew_fldI ?_ | refine sw_fldA ?_ | refine ew_dget1 ?_ | refine ew_dget2 ?_ | refine ow_isN ?_)
local macro_rules | `(tactic| walk_at "g2") => `(tactic| first
  | ((with_reducible refine' gw_tup ?e ?_); (case e => exact rfl))
  | ((with_reducible refine' oi_L ?e ?_); (case e => exact rfl))
  | ((refine' Exists.intro _ (And.intro ?cl (And.intro ?na (And.intro ?e ?_)))); (case cl => assumption); (case na => assumption); (case e => exact rfl))
  | ((refine' Exists.intro _ (Exists.intro _ (Exists.intro _ (Exists.intro _ (And.intro ?e (And.intro ?hm (And.intro ?cl (And.intro ?na (And.intro ?l ?_))))))))); (case e => exact rfl); (case hm => walk_at "m"); (case cl => assumption); (case na => assumption); (case l => exact Nat.le_of_ble_eq_true rfl)))
local macro_rules | `(tactic| walk_at "g") => `(tactic| repeat (first | walk_at "s1" | walk_at "s2" | walk_at "sx" | walk_at "g1" | walk_at "g2"))

section
variable {P : Program} {w : World} {K : PySem.W.Frag} {mg : Str → Option Value} {base : Heap} {a : Ads}
def F_turned : FS := fun ds m Q => ∃ (p : Addr) (c : Cell) (rest : Mem) (n : Nat) (T : Tab), ds = [.adr p, tabD T] ∧ m = (p, c) :: rest ∧ Kit n c ∧ n + 10 < 2 ^ 40 ∧ TabOk T ∧ T.length ≤ 25 ∧ (∀ r ∈ T, r.length ≤ 14) ∧
  ∀ (π : List Nat) (c' : Cell), Turn π T.length → Kit (n + 2) c' → Q (tabD (permT π T)) ((p, c') :: rest)
theorem ok__law_turned (T : Txt K mg a) : Def P w K mg base 3 a.f__law_turned ["kit", "grid"] (FSn 2 (F_turned)) := by
  have nd := sc__law_turned.nd
  have C__law_toss := ok__law_toss (P := P) (w := w) (base := base) T
  refine defOk T.h__law_turned sc__law_turned (fun _ _ _ h => h.1) (fun cdv A outer s H E hr => by exact (pss_cons (ps_set (i := 2) nd rfl (Or.inr rfl) (pe_listRg rfl (by rfl) T.n_list (prg_2 (by rfl) T.n_range pe_int (pe_callB (kx_len K rfl) (by rfl) T.n_len (by decide +kernel) (pa_cons (pv 1) pa_nil)))))
    (pss_cons (ps_for PassesOwn.never rfl (pi_range1 (by rfl) T.n_range (pa_cons pe_int pa_nil)) (pg_name (i := 3) nd rfl (Or.inl rfl)) (pss_cons (ps_set (i := 4) nd rfl (Or.inl rfl) (kx_def K rfl C__law_toss (hr.mono (by decide)) rfl T.g__law_toss T.k__law_toss (pa_cons (pv 0) (pa_cons (pe_op op_addU (pe_callB (kx_len K rfl) (by rfl) T.n_len (by decide +kernel) (pa_cons (pv 2) pa_nil)) pe_int) pa_nil))))
    (pss_one (ps_set (i := 2) nd rfl (Or.inr rfl) (pe_op op_addU (pe_slice (kx_sl K rfl) (pv 2) (po_some (pv 4)) po_none) (kx_revL K rfl (pe_slice (kx_sl K rfl) (pv 2) po_none (po_some (pv 4)))))))))
    (pss_cons (ps_set (i := 2) nd rfl (Or.inr rfl) (pe_op op_addU (pe_lst (pa_cons pe_int pa_nil)) (pv 2)))
    (pss_one (ps_ret (pe_lc (own := [("at", 4)]) (g := (gName 4)) (tt := tYes) rfl nd (kx_pi K rfl (pv 2)) (blkOk_by (own := [("at", 4)]) (N := N__law_turned) (sc := defScope s__law_turned) (by decide +kernel)) (fun _ _ _ _ _ => (pg_name (i := 4) nd rfl (by first | exact Or.inl rfl | exact Or.inr rfl))) (fun _ _ _ _ _ => pts_nil) (fun _ _ _ _ _ => (pe_lc (own := [("step", 5)]) (g := (gName 5)) (tt := tYes) rfl nd (kx_pi K rfl (pe_ix (kx_ix K rfl hr.units) (pv 1) (pv 4) (fun _ _ => rfl))) (by exact blkIn (own := [("step", 5)]) (N := N__law_turned) (sc0 := defScope s__law_turned) (by decide +kernel)) (fun _ _ _ _ _ => (pg_name (i := 5) nd rfl (by first | exact Or.inl rfl | exact Or.inr rfl))) (fun _ _ _ _ _ => pts_nil) (fun _ _ _ _ _ => (pe_tup (pa_cons (kx_bm K rfl PySem.F.plainAttrs_list PySem.F.slot_list_index PySem.F.type_list_index (kx_index K rfl (h65 hr)) (pv 2) (pa_cons (pe_ix (kx_ix K rfl hr.units) (pv 5) pe_int (fun _ _ => rfl)) pa_nil)) (pa_cons (pe_ix (kx_ix K rfl hr.units) (pv 5) pe_int (fun _ _ => rfl)) pa_nil))))))))))))) (fun ds m Q h => ?_)
  replace h := h.2
  clear nd
  obtain ⟨p, c, rest, n, T', rfl, rfl, hk, hn, ok, tl, tw, q⟩ := h
  have hpos := ok.pos
  refine sw_seq (sw_asg (ew_listRg2 ?_))
  walk_at "g"
  rw [List.length_map]
  refine ⟨1, T'.length - 1, rfl, by rw [show 1 + (T'.length - 1) = T'.length by omega], by omega, ?_⟩
  refine sw_seq (sw_forX (iw_rngN ?_))
  walk_at "g"
  refine ⟨2, rfl, by omega, Nat, List.range 2, _, rfl, fun j δ' m' => ∃ (c' : Cell) (o : List Nat) (x3 x4 : Option D), o.Perm (List.range' 1 (T'.length - 1)) ∧ Kit (n + j) c' ∧ δ' = [some (.adr p), some (tabD T'), some (.lst (o.map natD)), x3, x4, none] ∧ m' = (p, c') :: rest, ?_, ?_, ?_⟩
  · exact ⟨c, _, _, _, .refl _, hk, rfl, rfl⟩
  · rintro j i δ' m' hj ⟨c10, o, x3, x4, po, k10, rfl, rfl⟩
    have hj2 := (List.getElem?_eq_some_iff.mp hj).1
    rw [List.length_range] at hj2
    have ol := po.length_eq
    rw [List.length_range'] at ol
    walk_at "g"
    rw [List.length_map]
    refine tk k10 (fun r11 c11 h11 k11 => ?_) (by omega) (by omega) (by omega)
    walk_at "g"
    rw [cut_from (by omega), cut_to (by omega), Int.toNat_natCast, ← List.map_drop, ← List.map_take, ← List.map_reverse]
    refine ow_addL (le_sz (by rw [List.length_map, List.length_map, List.length_drop, List.length_reverse, List.length_take]; omega)) ?_
    rw [← List.map_append]
    walk_at "g"
    refine ⟨c11, _, _, _, ?_, k11, rfl, rfl⟩
    refine (List.Perm.append_left _ (List.reverse_perm _)).trans ?_
    refine List.perm_append_comm.trans ?_
    rw [List.take_append_drop]
    exact po
  · rintro δ' m' ⟨c10, o, x3, x4, po, k10, rfl, rfl⟩
    rw [List.length_range] at k10
    have ol := po.length_eq
    rw [List.length_range'] at ol
    walk_at "g"
    refine ew_l1 ?_
    walk_at "g"
    refine ow_addL (le_sz (by rw [List.length_map]; show 1 + _ ≤ _; omega)) ?_
    have tu : Turn (0 :: o) T'.length := by
      refine ⟨?_, rfl⟩
      rw [List.range_eq_range', show T'.length = T'.length - 1 + 1 by omega, List.range'_succ]
      exact po.cons 0
    rw [show [D.int 0] ++ o.map natD = (0 :: o).map natD from rfl]
    generalize 0 :: o = π at tu
    walk_at "g"
    refine ew_lcF (tame_name (by decide)) (iw_any ?_)
    walk_at "g"
    refine ⟨_, .inl rfl, Nat, π, natD, fun a => rowD ((T'.getD a []).map fun p => (π.idxOf p.1, p.2)), rfl, le_sz (by rw [tu.len]; omega), ?_, ?_⟩
    · intro a acc z2 ha
      have hal := tu.mem.mp ha
      have hr : T'[a]? = some T'[a] := List.getElem?_eq_getElem hal
      have hrl := tw _ (List.getElem_mem hal)
      have hlt := ok.lt _ (List.getElem_mem hal)
      have eg : T'.getD a [] = T'[a] := by rw [List.getD_eq_getElem?_getD, hr]; rfl
      generalize T'[a] = row at hr hrl hlt eg
      walk_at "g"
      refine ⟨rfl, ?_⟩
      walk_at "g"
      refine ew_lcF (tame_name (by decide)) (iw_any ?_)
      walk_at "g"
      refine oi_L (at_map (f := rowD) hr) ?_
      refine ⟨_, .inl rfl, Step, row, stepD, fun p => stepD (π.idxOf p.1, p.2), rfl, le_sz (by omega), ?_, ?_⟩
      · rintro ⟨g, t⟩ acc3 z3 hp
        walk_at "g"
        refine ⟨rfl, ?_⟩
        walk_at "g"
        refine ⟨ty_L, ?_⟩
        walk_at "g"
        refine mi_nL (tu.mem.mpr (hlt (g, t) hp)) ?_
        walk_at "g"
        exact ⟨rfl, rfl⟩
      · refine ⟨?_, rfl⟩
        show D.lst _ = rowD ((T'.getD a []).map fun p => (π.idxOf p.1, p.2))
        rw [eg]
        show D.lst _ = D.lst _
        rw [List.map_map]
        rfl
    · have e : D.lst (π.map fun a => rowD ((T'.getD a []).map fun p => (π.idxOf p.1, p.2))) = tabD (permT π T') := by
        show D.lst _ = D.lst _
        unfold permT
        rw [List.map_map]
        rfl
      rw [e]
      exact q _ c10 tu k10

end
end DL

set_option Elab.async false
set_option linter.all false
set_option maxRecDepth 100000
set_option maxHeartbeats 4000000
set_option autoImplicit false
namespace DL
open PySem PySem.Spec PyProof.Rows L2
local macro_rules | `(tactic| walk_at "m") => `(tactic| first
  | with_reducible exact MAt.last | with_reducible exact MUp.last
  | exact MAt.zero | exact MUp.zero | exact MAt.last | exact MUp.last
  | (apply MAt.cons; walk_at "m") | (apply MUp.cons; walk_at "m")
  | (apply MAt.app; walk_at "m") | (apply MUp.app; walk_at "m")
  | assumption)
local macro_rules | `(tactic| walk_at "s1") => `(tactic| with_reducible first
  | refine sw_seq ?_ | refine sw_next ?_ | refine sw_ret ?_ | refine sw_retN ?_ | refine sw_asg ?_ | refine sw_asgG ?_ | refine sw_drop ?_ | refine sw_break ?_ | refine sw_cont ?_ | refine sw_par ?_ | refine sw_par3 ?_
  | refine tw_test ?_ | refine tw_B ?_ | refine tw_and ?_ | refine tw_or ?_ | refine tw_not ?_ | refine tw_yes ?_
  | refine ew_op ?_ | refine ew_un ?_ | refine ew_int ?_ | refine ew_non ?_ | refine ew_bl ?_ | refine ew_str ?_ | refine ew_ty ?_ | refine ew_ref ?_ | refine ew_cb ?_ | refine ew_if ?_ | refine ew_andV ?_ | refine ew_orV ?_ | refine ew_notV ?_ | refine ew_chain ?_ | refine ew_sl ?_ | refine pw_no ?_ | refine pw_part ?_
  | refine ew_call0 ?_ | refine ew_kw0 ?_
  | refine aw_nil ?_ | refine aw_cons ?_ | refine ew_bm ?_ | refine ew_bm0 ?_ | refine gs_L ?_
  | refine gs_nil ?_ | refine gs_cons ?_ | refine gw_name ?_
  | refine ow_addI ?_ | refine ow_odd ?_ | refine ow_i0 ?_ | refine ow_b0 ?_ | refine oq_eqI ?_ | refine oq_neI ?_ | refine oq_eqS ?_ | refine oq_neS ?_ | refine ow_isN ?_ | refine ow_notN ?_ | refine uw_neg ?_ | refine cw_int ?_ | refine cw_intB ?_ | refine cw_abs ?_ | refine cw_mx2 ?_ | refine cw_mn2 ?_ | refine cw_lenL ?_ | refine cw_lenR ?_ | refine cw_listL ?_ | refine cw_listT ?_ | refine lw_L ?_ | refine ew_revL ?_)
local macro_rules | `(tactic| walk_at "s2") => `(tactic| first
  | ((with_reducible refine' ew_var ?hv ?_); (case hv => exact rfl))
  | ((with_reducible refine' oi_M ?hm ?hi ?_); (case hm => walk_at "m"); (case hi => exact rfl))
  | ((with_reducible refine' ow_ixT ?hi ?_); (case hi => exact rfl))
  | ((with_reducible refine' cl_M ?hm ?_); (case hm => walk_at "m"))
  | ((with_reducible refine' ci_M ?hm ?_); (case hm => walk_at "m"))
  | ((with_reducible refine' ma_app ?hm ?ll ?_); (case hm => walk_at "m"); (case ll => walk_at "l"))
  | ((with_reducible refine' And.intro (ty_A ?hm) ?_); (case hm => walk_at "m"))
  | (with_reducible refine' Exists.intro _ (And.intro ?he ?_); (case he => exact rfl))
  | (with_reducible refine' Exists.intro _ (Exists.intro _ (And.intro ?he ?_)); (case he => exact rfl))
  | (with_reducible refine' Exists.intro _ (Exists.intro _ (Exists.intro _ (And.intro ?he ?_))); (case he => exact rfl))
  | ((with_reducible refine' Exists.intro _ (Exists.intro _ (Exists.intro _ (Exists.intro _ (Exists.intro _ (And.intro ?e1 (And.intro ?e2 (And.intro ?hm (And.intro ?hi ?_))))))))); (case e1 => exact rfl); (case e2 => exact rfl); (case hm => walk_at "m"); (case hi => exact rfl)))
local macro_rules | `(tactic| walk_at "l") => `(tactic| first | assumption | exact lt_sz (by omega) | exact lt_sz (by simp only [List.length_map, List.length_append, List.length_cons, List.length_nil, List.length_take, List.length_drop, List.length_range]; omega))
local macro_rules | `(tactic| walk_at "s") => `(tactic| repeat (first | walk_at "s1" | walk_at "s2"))
local macro_rules | `(tactic| walk_at "sx") => `(tactic| with_reducible first
  | refine swx_of ?_ | refine swx_seq ?_ | refine swx_drop ?_ | refine swx_asg ?_ | refine swx_ret ?_ | refine ewx_fun ?_ | refine ewx_meth ?_ | refine ewx_make ?_ | refine ewx_sub ?_)
local macro_rules | `(tactic| walk_at "s") => `(tactic| repeat (first | walk_at "s1" | walk_at "s2" | walk_at "sx"))
local macro_rules | `(tactic| walk_at "g1") => `(tactic| with_reducible first
  | refine ew_tup2 ?_ | refine ew_tup3 ?_ | refine ew_tup4 ?_ | refine ew_fldI ?_ | refine sw_fldA ?_ | refine ew_dget1 ?_ | refine ew_dget2 ?_ | refine ow_isN ?_)
local macro_rules | `(tactic| walk_at "g2") => `(tactic| first
  | ((with_reducible refine' gw_tup ?e ?_); (case e => exact rfl))
  | ((with_reducible refine' oi_L ?e ?_); (case e => exact rfl))
  | ((refine' Exists.intro _ (And.intro ?cl (And.intro ?na (And.intro ?e ?_)))); (case cl => assumption); (case na => assumption); (case e => exact rfl))
  | ((refine' Exists.intro _ (Exists.intro _ (Exists.intro _ (Exists.intro _ (And.intro ?e (And.intro ?hm (And.intro ?cl (And.intro ?na (And.intro ?l ?_))))))))); (case e => exact rfl); (case hm => walk_at "m"); (case cl => assumption); (case na => assumption); (case l => exact Nat.le_of_ble_eq_true rfl)))
local macro_rules | `(tactic| walk_at "g") => `(tactic| repeat (first | walk_at "s1" | walk_at "s2" | walk_at "sx" | walk_at "g1" | walk_at "g2"))

section
variable {P : Program} {w : World} {K : PySem.W.Frag} {mg : Str → Option Value} {base : Heap} {a : Ads}
theorem cellsF_id {α : Type} (f : α → D) (zs : List Addr) (G : List (List α)) : cellsF f zs G = cellsF id zs (G.map fun r => r.map f) := by
  unfold cellsF
  rw [List.zipWith_map_right]
  congr 1
  funext z r
  simp [cellF]
/-- names and a table that can be shown -/
structure SzS (ws : List Str) (T : Tab) : Prop where
  wl : ws.length ≤ 12
  tl : T.length ≤ 25
  ok : ∀ x ∈ ws, PyData.strOk x = true
  wx : ∀ x ∈ ws, x.length ≤ 25
  rl : ∀ r ∈ T, r.length ≤ 12
  ans : ∀ r ∈ T, ∀ s ∈ r, AnsOk s.2
  ok2 : ∀ r ∈ T, ∀ s ∈ r, s.1 < 100
theorem tw_step {s : Step} (h : s.1 < 100) (a : AnsOk s.2) : TwQ 1 700 (stepD s).py := by
  refine (TwQ.tup (n := 0) (B := 300) (N := 2) (xs := [.int (s.1 : Nat), ansD s.2]) (fun x hx => ?_) (Nat.le_refl 2)).up (Nat.le_refl _) (Nat.le_of_ble_eq_true rfl)
  simp only [List.mem_cons, List.not_mem_nil, or_false] at hx
  rcases hx with rfl | rfl
  · exact twQ_int (by omega)
  · cases c : s.2 with
    | none => exact twQ_non
    | some y =>
      rw [c] at a
      have a : -1000 ≤ y ∧ y ≤ 1000 := a
      exact twQ_int (by omega)
theorem tw_row {r : List Step} (hl : r.length ≤ 12) (h : ∀ s ∈ r, s.1 < 100) (a : ∀ s ∈ r, AnsOk s.2) : TwQ 2 9000 (rowD r).py := by
  refine (TwQ.list (n := 1) (B := 700) (N := 12) (fun x hx => ?_) (by rw [List.length_map]; exact hl)).up (Nat.le_refl _) (by omega)
  obtain ⟨s, hs, rfl⟩ := List.mem_map.mp hx
  exact tw_step (h s hs) (a s hs)
theorem tw_tab {ws : List Str} {T : Tab} (z : SzS ws T) : TwQ 3 230000 (tabD T).py := by
  refine (TwQ.list (n := 2) (B := 9000) (N := 25) (fun x hx => ?_) (by rw [List.length_map]; exact z.tl)).up (Nat.le_refl _) (by omega)
  obtain ⟨r, hr, rfl⟩ := List.mem_map.mp hx
  exact tw_row (z.rl r hr) (z.ok2 r hr) (z.ans r hr)
theorem tw_all3 {ws : List Str} {T : Tab} (z : SzS ws T) : TwQ 4 700000 (D.lst [.lst (ws.map .str), tabD T, .int (T.length : Nat)]).py := by
  refine (TwQ.list (n := 3) (B := 230000) (N := 3) (xs := [.lst (ws.map .str), tabD T, .int (T.length : Nat)]) (fun x hx => ?_) (Nat.le_refl 3)).up (Nat.le_refl _) (by omega)
  simp only [List.mem_cons, List.not_mem_nil, or_false] at hx
  rcases hx with rfl | rfl | rfl
  · refine (TwQ.list (n := 0) (B := 300) (N := 12) (fun x hx => ?_) (by rw [List.length_map]; exact z.wl)).up (by decide) (by omega)
    obtain ⟨s, hs, rfl⟩ := List.mem_map.mp hx
    exact twQ_str (z.ok s hs) (z.wx s hs)
  · exact tw_tab z
  · exact (twQ_int (by have := z.tl; omega)).up (by decide) (by decide)
theorem steps_fl : ∀ b : List Step, (b.map stepD).all (D.fl 1) = true := fun b => by
  rw [List.all_eq_true]
  intro x hx
  obtain ⟨⟨i, t⟩, _, rfl⟩ := List.mem_map.mp hx
  cases t <;> rfl
theorem ansD_nb (x : Option Int) : (ansD x).nb 0 = true := by cases x <;> rfl
theorem rowD_nb (r : List Step) : (rowD r).nb 2 = true := by
  show (r.map stepD).all (D.nb 1) = true
  rw [List.all_eq_true]
  intro x hx
  obtain ⟨p, _, rfl⟩ := List.mem_map.mp hx
  show (true && ((ansD p.2).nb 0 && true)) = true
  rw [ansD_nb]
  rfl
theorem tabD_nb (T : Tab) : (tabD T).nb 3 = true := by
  show (T.map rowD).all (D.nb 2) = true
  rw [List.all_eq_true]
  intro x hx
  obtain ⟨r, _, rfl⟩ := List.mem_map.mp hx
  exact rowD_nb r
theorem ok_Service___getitem__ (T : Txt K mg a) : Def P w K mg base 4 a.f_Service___getitem__ ["self", "at"] (FX.quiet (FXn 2 (F_getitem a.c_Service a.c_UnknownCall))) := (okx_Service___getitem__ (P := P) (w := w) (base := base) T).quiet
def F_toldright (C : Addr) : FS := fun ds m Q => ∃ (ws : List Str) (T : Tab), ds = [srvD C ws T, .lst (ws.map .str), tabD T] ∧ Srv ws T ∧ SzS ws T ∧ Q (.bl true) m
theorem ok__law_told_right (T : Txt K mg a) : DefG P w K mg base 6 a.f__law_told_right ["made", "names_here", "least"] (FSn 3 (F_toldright a.c_Service)) := by
  have nd := sc__law_told_right.nd
  have C_Service___getitem__ := ok_Service___getitem__ (P := P) (w := w) (base := base) T
  have C_Service___len__ := ok_Service___len__ (P := P) (w := w) (base := base) T
  have C_Service_table := ok_Service_table (P := P) (w := w) (base := base) T
  have C_Service_calls := ok_Service_calls (P := P) (w := w) (base := base) T
  refine defOkG T.h__law_told_right sc__law_told_right (fun _ _ _ h => h.1) (fun cdv A outer s H hg hr => by exact (pss_cons (ps_for PassesOwn.never rfl (pi_range1 (by rfl) T.n_range (pa_cons pe_int pa_nil)) (pg_name (i := 3) nd rfl (Or.inl rfl)) (pss_cons (ps_set (i := 4) nd rfl (Or.inl rfl) (pe_lst (pa_cons (kx_prop K rfl (pv 0) T.cl_Service T.p_Service_calls C_Service_calls (hr.mono (by decide)) rfl) (pa_cons (kx_prop K rfl (pv 0) T.cl_Service T.p_Service_table C_Service_table (hr.mono (by decide)) rfl) pa_nil))))
    (pss_cons (ps_if (pt_cmpR (kx_neU K rfl hr.units) (pe_callB (kx_reprU K rfl hg (h66 hr)) (by rfl) T.n_repr (by decide +kernel) (pa_cons (pe_op op_addU (pv 4) (pe_lst (pa_cons (pe_callB (kx_lenOwn K rfl T.len_Service C_Service___len__ (hr.mono (by decide))) (by rfl) T.n_len PySem.boot_len (pa_cons (pv 0) pa_nil)) pa_nil))) pa_nil)) (pe_callB (kx_reprU K rfl hg (h66 hr)) (by rfl) T.n_repr (by decide +kernel) (pa_cons (pe_lst (pa_cons (pv 1) (pa_cons (pv 2) (pa_cons (pe_callB (kx_len K rfl) (by rfl) T.n_len (by decide +kernel) (pa_cons (pv 2) pa_nil)) pa_nil)))) pa_nil)) (nomark _)) (pss_one (ps_ret pe_bl)) pss_nil)
    (pss_cons (ps_for PassesOwn.never rfl (kx_enum K rfl (by rfl) T.n_enumerate (pa_cons (pv 1) pa_nil)) (kx_tup K rfl (n := 2) (by rfl) (pgs_cons (pg_name (i := 5) nd rfl (Or.inr rfl)) (pgs_cons (pg_name (i := 6) nd rfl (Or.inl rfl)) pgs_nil))) (pss_cons (ps_set (i := 7) nd rfl (Or.inl rfl) (kx_subOwn K rfl T.gi_Service C_Service___getitem__ (hr.mono (by decide)) (pv 0) (pv 6) (fun _ _ => by with_unfolding_all rfl)))
    (pss_cons (ps_if (pt_cmpR (kx_neU K rfl hr.units) (pe_callB (kx_reprU K rfl hg (h66 hr)) (by rfl) T.n_repr (by decide +kernel) (pa_cons (pv 7) pa_nil)) (pe_callB (kx_reprU K rfl hg (h66 hr)) (by rfl) T.n_repr (by decide +kernel) (pa_cons (pe_lc (own := [("line", 9)]) (g := (gName 9)) (tt := tYes) rfl nd (kx_pi K rfl (pv 2)) (blkOk_by (own := [("line", 9)]) (N := N__law_told_right) (sc := defScope s__law_told_right) (by decide +kernel)) (fun _ _ _ _ _ => (pg_name (i := 9) nd rfl (by first | exact Or.inl rfl | exact Or.inr rfl))) (fun _ _ _ _ _ => pts_nil) (fun _ _ _ _ _ => (pe_ix (kx_ix K rfl hr.units) (pv 9) (pv 5) (fun _ _ => rfl)))) pa_nil)) (nomark _)) (pss_one (ps_ret pe_bl)) pss_nil)
    (pss_one (ps_expr (kx_bm K rfl PySem.F.plainAttrs_list PySem.F.slot_list_append PySem.F.type_list_append mt_append (pv 7) (pa_cons (pe_tup (pa_cons pe_int (pa_cons pe_int pa_nil))) pa_nil)))))))
    (pss_cons (ps_for PassesOwn.never rfl (kx_enum K rfl (by rfl) T.n_enumerate (pa_cons (pe_ix (kx_ix K rfl hr.units) (pv 4) pe_int (fun _ _ => rfl)) pa_nil)) (kx_tup K rfl (n := 2) (by rfl) (pgs_cons (pg_name (i := 8) nd rfl (Or.inl rfl)) (pgs_cons (pg_name (i := 9) nd rfl (Or.inl rfl)) pgs_nil))) (pss_cons (ps_if (pt_cmpR (kx_neU K rfl hr.units) (pe_callB (kx_reprU K rfl hg (h66 hr)) (by rfl) T.n_repr (by decide +kernel) (pa_cons (pv 9) pa_nil)) (pe_callB (kx_reprU K rfl hg (h66 hr)) (by rfl) T.n_repr (by decide +kernel) (pa_cons (pe_ix (kx_ix K rfl hr.units) (pv 2) (pv 8) (fun _ _ => rfl)) pa_nil)) (nomark _)) (pss_one (ps_ret pe_bl)) pss_nil)
    (pss_one (ps_expr (kx_bm K rfl PySem.F.plainAttrs_list PySem.F.slot_list_append PySem.F.type_list_append mt_append (pv 9) (pa_cons pe_int pa_nil))))))
    (pss_cons (ps_expr (kx_bm K rfl PySem.F.plainAttrs_list PySem.F.slot_list_append PySem.F.type_list_append mt_append (pe_ix (kx_ix K rfl hr.units) (pv 4) pe_int (fun _ _ => rfl)) (pa_cons pe_str pa_nil)))
    (pss_one (ps_expr (kx_bm K rfl PySem.F.plainAttrs_list PySem.F.slot_list_append PySem.F.type_list_append mt_append (pe_ix (kx_ix K rfl hr.units) (pv 4) pe_int (fun _ _ => rfl)) (pa_cons (pe_lst pa_nil) pa_nil))))))))))
    (pss_one (ps_ret pe_bl)))) (fun ds m Q h => ?_)
  replace h := h.2
  clear nd
  obtain ⟨ws, T, rfl, sv, sz, q⟩ := h
  have hwl := sz.wl
  have htl := sz.tl
  walk_at "g"
  refine sw_forX (iw_rngN ?_)
  walk_at "g"
  refine ⟨2, rfl, by omega, Nat, List.range 2, _, rfl, fun j δ' m' => ∃ x3 x4 x5 x6 x7 x8 x9 : Option D, δ' = [some (srvD a.c_Service ws T), some (.lst (ws.map .str)), some (tabD T), x3, x4, x5, x6, x7, x8, x9] ∧ m' = m, ?_, ?_, ?_⟩
  · exact ⟨_, _, _, _, _, _, _, rfl, rfl⟩
  · rintro j i δ' m' hj ⟨x3, x4, x5, x6, x7, x8, x9, rfl, rfl⟩
    refine gw_name (sw_free ?_)
    walk_at "g"
    refine ew_lst ?_
    refine aw_cons (ew_prop (ew_var rfl ⟨_, rfl, rfl, ws, T, rfl, fun zc => ?_⟩))
    refine aw_cons (ew_prop (ew_var rfl ⟨_, rfl, rfl, ws, T, rfl, by omega, fun zs zt hz => aw_nil ⟨Nat.le_of_ble_eq_true rfl, ?_⟩⟩))
    refine sw_seq (sw_if ?_)
    walk_at "g"
    refine ew_lst ?_
    walk_at "g"
    refine cw_own ⟨rfl, ws, T, rfl, T.length, rfl, by omega, ?_⟩
    walk_at "g"
    refine ⟨Nat.le_of_ble_eq_true rfl, ?_⟩
    refine ow_addL (Nat.le_of_ble_eq_true rfl) ?_
    walk_at "g"
    have w3 := tw_all3 sz
    have res3 : Res K (m' ++ [(zc, Cell.lst (List.map D.str ws))] ++ cellsF stepD zs T ++ [(zt, Cell.lst (List.map D.adr zs))]) (.lst ([.adr zc, .adr zt] ++ [.int (T.length : Nat)])) (D.lst [.lst (ws.map .str), tabD T, .int (T.length : Nat)]).py := by
      rw [show (D.lst [.lst (ws.map .str), tabD T, .int (T.length : Nat)]).py = .list [(D.lst (ws.map .str)).py, (tabD T).py, (D.int (T.length : Nat)).py] by simp only [D.py, D.pyL]]
      refine Res.lst (.cons ?_ (.cons ?_ (.cons (Res.fl (n := 0) rfl) .nil)))
      · exact res_S (.at_ (by walk_at "m")) sz.ok
      · rw [show (tabD T).py = .list (D.pyL (T.map (lstF stepD))) by simp only [D.py]]
        refine Res.adr (by walk_at "m") (resL_cells (n := 1) steps_fl hz fun x hx => ?_)
        exact List.mem_append_left _ (List.mem_append_right _ hx)
    refine cw_showU res3 (.inl ⟨_, rfl⟩) w3.shw (by decide) (le_sz (by omega)) ?_
    walk_at "g"
    refine ew_l3 ?_
    walk_at "g"
    rw [List.length_map]
    have nb3 : (D.lst [.lst (ws.map .str), tabD T, .int (T.length : Nat)]).nb 4 = true := by
      show ((ws.map D.str).all (D.nb 2) && ((tabD T).nb 3 && (true && true))) = true
      rw [tabD_nb, List.all_eq_true.mpr fun x hx => by obtain ⟨y, hy, rfl⟩ := List.mem_map.mp hx; exact sz.ok y hy]
      rfl
    refine cw_showU (Res.fl (nb_fl 4 _ nb3)) (.inl ⟨_, rfl⟩) w3.shw (by decide) (le_sz (by omega)) ?_
    have w3o := w3.ok
    generalize (D.lst [.lst (ws.map .str), tabD T, .int (T.length : Nat)]).py.shown = tx at w3o
    refine oq_ne 0 w3o w3o fun b hb => ?_
    rw [hb.mpr rfl]
    walk_at "g"
    rw [if_neg (by decide)]
    walk_at "g"
    have hws : ∀ {i : Nat} {l : Str}, ws[i]? = some l → ws.idxOf l = i := fun {i l} h => by
      obtain ⟨h1, h2⟩ := List.getElem?_eq_some_iff.mp h
      rw [← h2]
      exact sv.nd.idxOf_getElem i h1
    generalize hM0 : m' ++ [(zc, Cell.lst (List.map D.str ws))] ++ cellsF stepD zs T ++ [(zt, Cell.lst (List.map D.adr zs))] = M0
    refine sw_forX (iw_enum ?_)
    walk_at "g"
    rw [enumD_map]
    refine ⟨Str × Nat, ws.zipIdx, fun p => .tup [.int (p.2 : Nat), .str p.1], rfl, fun j2 δ' m2 => ∃ x5 x6 x7 x8 x9 : Option D, δ' = [some (srvD a.c_Service ws T), some (.lst (ws.map .str)), some (tabD T), some (.int (i : Nat)), some (.lst [.adr zc, .adr zt]), x5, x6, x7, x8, x9] ∧ m2 = M0, ?_, ?_, ?_⟩
    · exact ⟨_, _, _, _, _, rfl, rfl⟩
    · rintro j2 ⟨l, i2⟩ δ' m2 hj2 ⟨x5, x6, x7, x8, x9, rfl, rfl⟩
      obtain ⟨hl, hi2⟩ : ws[i2]? = some l ∧ j2 = i2 := by
        rw [List.getElem?_zipIdx] at hj2
        cases e : ws[j2]? with
        | none => rw [e] at hj2; cases hj2
        | some y =>
          rw [e] at hj2
          injection hj2 with hj2
          injection hj2 with h1 h2
          have h3 : j2 = i2 := by omega
          exact ⟨by rw [← h3, e, h1], h3⟩
      subst hi2
      have hlm := List.mem_of_getElem? hl
      have hix := hws hl
      have hi2l := (List.getElem?_eq_some_iff.mp hl).1
      refine gw_tup rfl (gs_cons (gw_name (gs_cons (gw_name (gs_nil (sw_free ?_))))))
      refine sw_seq (sw_asg (ew_subOwn ?_))
      walk_at "g"
      refine ⟨rfl, ws, T, l, rfl, sv, fun h => absurd hlm h, fun _ z => ?_⟩
      rw [hix]
      have eC : (T.map fun r => stepD (r.getD j2 (0, none))) = (T.map fun r => r.getD j2 (0, none)).map stepD := by rw [List.map_map]; rfl
      have inC : ∀ s ∈ T.map (fun r => r.getD j2 (0, none)), s.1 < 100 ∧ AnsOk s.2 := fun s hs => by
        obtain ⟨r, hr, rfl⟩ := List.mem_map.mp hs
        have hm : r.getD j2 (0, none) ∈ r := by
          rw [List.getD_eq_getElem?_getD, List.getElem?_eq_getElem (by rw [sv.wid r hr]; exact hi2l)]
          exact List.getElem_mem _
        exact ⟨sz.ok2 r hr _ hm, sz.ans r hr _ hm⟩
      have twC : TwQ 2 20000 (D.lst ((T.map fun r => r.getD j2 (0, none)).map stepD)).py := by
        refine (TwQ.list (n := 1) (B := 700) (N := 25) (fun x hx => ?_) (by rw [List.length_map, List.length_map]; exact htl)).up (Nat.le_refl _) (by omega)
        obtain ⟨s, hs, rfl⟩ := List.mem_map.mp hx
        exact tw_step (inC s hs).1 (inC s hs).2
      refine sw_seq (sw_if ?_)
      walk_at "g"
      rw [eC]
      refine cw_showU (d := (D.lst ((T.map fun r => r.getD j2 (0, none)).map stepD)).py) ?_ (.inr (.inr ⟨_, rfl⟩)) twC.shw (by decide) (le_sz (by omega)) ?_
      · rw [show (D.lst ((T.map fun r => r.getD j2 (0, none)).map stepD)).py = .list (D.pyL ((T.map fun r => r.getD j2 (0, none)).map stepD)) by simp only [D.py]]
        exact Res.adr (by walk_at "m") (resL_fl (n := 1) (steps_fl _))
      walk_at "g"
      refine ew_lcF (tame_name (by decide)) (iw_any ?_)
      walk_at "g"
      refine ⟨_, .inl rfl, List Step, T, rowD, fun r => stepD (r.getD j2 (0, none)), rfl, le_sz (by omega), ?_, ?_⟩
      · intro r acc z3 hr
        walk_at "g"
        refine ⟨rfl, ?_⟩
        walk_at "g"
        refine oi_L (at_map (f := stepD) (stepAt sv.wid hi2l hr)) ?_
        exact ⟨rfl, rfl⟩
      rw [eC]
      walk_at "g"
      refine cw_showU (Res.fl (n := 2) (by show ((T.map fun r => r.getD j2 (0, none)).map stepD).all (D.fl 1) = true; exact steps_fl _)) (.inl ⟨_, rfl⟩) twC.shw (by decide) (le_sz (by omega)) ?_
      have twCo := twC.ok
      generalize (D.lst ((T.map fun r => r.getD j2 (0, none)).map stepD)).py.shown = tc at twCo
      refine oq_ne 0 twCo twCo fun b hb => ?_
      rw [hb.mpr rfl]
      walk_at "g"
      rw [if_neg (by decide)]
      walk_at "g"
      exact ⟨m2, Gb.refl.app, _, _, _, _, _, rfl, rfl⟩
    · rintro δ' m2 ⟨x5, x6, x7, x8, x9, rfl, rfl⟩
      rw [cellsF_id] at hM0
      subst hM0
      refine sw_seq (sw_forEQ (aw_cons ?_))
      walk_at "g"
      refine ⟨Addr, zs, D.adr, .at_ (by walk_at "m"), fun j3 δ' m3 => ∃ (G : List (List D)) (x5 x6 x7 x8 x9 : Option D), G.length = T.length ∧ (∀ i3 r, j3 ≤ i3 → T[i3]? = some r → G[i3]? = some (r.map stepD)) ∧ δ' = [some (srvD a.c_Service ws T), some (.lst (ws.map .str)), some (tabD T), some (.int (i : Nat)), some (.lst [.adr zc, .adr zt]), x5, x6, x7, x8, x9] ∧ m3 = m' ++ [(zc, Cell.lst (List.map D.str ws))] ++ cellsF id zs G ++ [(zt, Cell.lst (List.map D.adr zs))], ?_, ?_, ?_, ?_⟩
      · refine ⟨_, _, _, _, _, _, by rw [List.length_map], fun i3 r _ hr => ?_, rfl, rfl⟩
        rw [List.getElem?_map, hr]
        rfl
      · rintro j3 δ' m3 ⟨G, x5, x6, x7, x8, x9, hGl, hG, rfl, rfl⟩
        exact .at_ (by walk_at "m")
      · rintro j3 z δ' m3 hj3 ⟨G, x5, x6, x7, x8, x9, hGl, hG, rfl, rfl⟩
        have hjl := (List.getElem?_eq_some_iff.mp hj3).1
        have hr : T[j3]? = some (T[j3]'(by omega)) := List.getElem?_eq_getElem (by omega)
        have hrm : T[j3]'(by omega) ∈ T := List.getElem_mem _
        generalize T[j3]'(by omega) = r at hr hrm
        have hGj := hG j3 r (Nat.le_refl _) hr
        have hcz : (cellsF id zs G)[j3]? = some (z, Cell.lst (r.map stepD)) := by
          have := cellsF_at (f := id) hj3 hGj
          rw [this]
          simp [cellF]
        have twr := tw_row (sz.rl r hrm) (sz.ok2 r hrm) (sz.ans r hrm)
        refine gw_tup rfl (gs_cons (gw_name (gs_cons (gw_name (gs_nil (sw_seq (sw_if ?_)))))))
        walk_at "g"
        refine cw_showU (d := (rowD r).py) ?_ (.inr (.inr ⟨_, rfl⟩)) twr.shw (by decide) (le_sz (by omega)) ?_
        · rw [show (rowD r).py = .list (D.pyL (r.map stepD)) by simp only [D.py]]
          exact Res.adr (MAt.app (MAt.pre ⟨_, hcz⟩)) (resL_fl (n := 1) (steps_fl _))
        walk_at "g"
        refine oi_L (at_map (f := rowD) hr) ?_
        walk_at "g"
        refine cw_showU (Res.fl (n := 2) (by show (r.map stepD).all (D.fl 1) = true; exact steps_fl _)) (.inl ⟨_, rfl⟩) twr.shw (by decide) (le_sz (by omega)) ?_
        have twro := twr.ok
        generalize (rowD r).py.shown = tr at twro
        refine oq_ne 0 twro twro fun b hb => ?_
        rw [hb.mpr rfl]
        walk_at "g"
        rw [if_neg (by decide)]
        walk_at "g"
        have hup : MUp (m' ++ [(zc, Cell.lst (List.map D.str ws))] ++ cellsF id zs G ++ [(zt, Cell.lst (List.map D.adr zs))]) z (.lst (r.map stepD)) (.lst (r.map stepD ++ [.int 7])) (m' ++ [(zc, Cell.lst (List.map D.str ws))] ++ cellsF id zs (G.set j3 (r.map stepD ++ [.int 7])) ++ [(zt, Cell.lst (List.map D.adr zs))]) := by
          have := cellsF_up (f := id) hj3 hGj (r.map stepD ++ [.int 7])
          rw [List.map_id, List.map_id] at this
          exact (this.pre).app
        have hrl := sz.rl r hrm
        refine ⟨ty_A hup.at_, ?_⟩
        walk_at "g"
        first | refine ma_app hup (lt_sz (by rw [List.length_map]; omega)) ?_ | skip
        refine ⟨_, _, _, _, _, _, by rw [List.length_set]; exact hGl, fun i3 r3 hi3 hr3 => ?_, rfl, rfl⟩
        rw [List.getElem?_set_ne (by omega)]
        exact hG i3 r3 (by omega) hr3
      · rintro δ' m3 ⟨G, x5, x6, x7, x8, x9, hGl, hG, rfl, rfl⟩
        walk_at "g"
        refine ew_lst ?_
        walk_at "g"
        refine ⟨Nat.le_of_ble_eq_true rfl, ?_⟩
        walk_at "g"
        exact ⟨m', Gb.refl.app.app.app, _, _, _, _, _, _, _, rfl, rfl⟩
  · rintro δ' m' ⟨x3, x4, x5, x6, x7, x8, x9, rfl, rfl⟩
    walk_at "g"
    exact q

end
end DL

set_option Elab.async false
set_option linter.all false
set_option maxRecDepth 100000
set_option maxHeartbeats 4000000
set_option autoImplicit false
namespace DL
open PySem PySem.Spec PyProof.Rows L2
local macro_rules | `(tactic| walk_at "m") => `(tactic| first
  | with_reducible exact MAt.last | with_reducible exact MUp.last
  | exact MAt.zero | exact MUp.zero | exact MAt.last | exact MUp.last
  | (apply MAt.cons; walk_at "m") | (apply MUp.cons; walk_at "m")
  | (apply MAt.app; walk_at "m") | (apply MUp.app; walk_at "m")
  | assumption)
local macro_rules | `(tactic| walk_at "s1") => `(tactic| with_reducible first
  | refine sw_seq ?_ | refine sw_next ?_ | refine sw_ret ?_ | refine sw_retN ?_ | refine sw_asg ?_ | refine sw_asgG ?_ | refine sw_drop ?_ | refine sw_break ?_ | refine sw_cont ?_ | refine sw_par ?_ | refine sw_par3 ?_
  | refine tw_test ?_ | refine tw_B ?_ | refine tw_and ?_ | refine tw_or ?_ | refine tw_not ?_ | refine tw_yes ?_
  | refine ew_op ?_ | refine ew_un ?_ | refine ew_int ?_ | refine ew_non ?_ | refine ew_bl ?_ | refine ew_str ?_ | refine ew_ty ?_ | refine ew_ref ?_ | refine ew_cb ?_ | refine ew_if ?_ | refine ew_andV ?_ | refine ew_orV ?_ | refine ew_notV ?_ | refine ew_chain ?_ | refine ew_sl ?_ | refine pw_no ?_ | refine pw_part ?_
  | refine ew_call0 ?_ | refine ew_kw0 ?_
  | refine aw_nil ?_ | refine aw_cons ?_ | refine ew_bm ?_ | refine ew_bm0 ?_ | refine gs_L ?_
  | refine gs_nil ?_ | refine gs_cons ?_ | refine gw_name ?_
  | refine ow_addI ?_ | refine ow_odd ?_ | refine ow_i0 ?_ | refine ow_b0 ?_ | refine oq_eqI ?_ | refine oq_neI ?_ | refine oq_eqS ?_ | refine oq_neS ?_ | refine ow_isN ?_ | refine ow_notN ?_ | refine uw_neg ?_ | refine cw_int ?_ | refine cw_intB ?_ | refine cw_abs ?_ | refine cw_mx2 ?_ | refine cw_mn2 ?_ | refine cw_lenL ?_ | refine cw_lenR ?_ | refine cw_listL ?_ | refine cw_listT ?_ | refine lw_L ?_ | refine ew_revL ?_)
local macro_rules | `(tactic| walk_at "s2") => `(tactic| first
  | ((with_reducible refine' ew_var ?hv ?_); (case hv => exact rfl))
  | ((with_reducible refine' oi_M ?hm ?hi ?_); (case hm => walk_at "m"); (case hi => exact rfl))
  | ((with_reducible refine' ow_ixT ?hi ?_); (case hi => exact rfl))
  | ((with_reducible refine' cl_M ?hm ?_); (case hm => walk_at "m"))
  | ((with_reducible refine' ci_M ?hm ?_); (case hm => walk_at "m"))
  | ((with_reducible refine' ma_app ?hm ?ll ?_); (case hm => walk_at "m"); (case ll => walk_at "l"))
  | ((with_reducible refine' And.intro (ty_A ?hm) ?_); (case hm => walk_at "m"))
  | (with_reducible refine' Exists.intro _ (And.intro ?he ?_); (case he => exact rfl))
  | (with_reducible refine' Exists.intro _ (Exists.intro _ (And.intro ?he ?_)); (case he => exact rfl))
  | (with_reducible refine' Exists.intro _ (Exists.intro _ (Exists.intro _ (And.intro ?he ?_))); (case he => exact rfl))
  | ((with_reducible refine' Exists.intro _ (Exists.intro _ (Exists.intro _ (Exists.intro _ (Exists.intro _ (And.intro ?e1 (And.intro ?e2 (And.intro ?hm (And.intro ?hi ?_))))))))); (case e1 => exact rfl); (case e2 => exact rfl); (case hm => walk_at "m"); (case hi => exact rfl)))
local macro_rules | `(tactic| walk_at "l") => `(tactic| first | assumption | exact lt_sz (by omega) | exact lt_sz (by simp only [List.length_map, List.length_append, List.length_cons, List.length_nil, List.length_take, List.length_drop, List.length_range]; omega))
local macro_rules | `(tactic| walk_at "s") => `(tactic| repeat (first | walk_at "s1" | walk_at "s2"))
local macro_rules | `(tactic| walk_at "sx") => `(tactic| with_reducible first
  | refine swx_of ?_ | refine swx_seq ?_ | refine swx_drop ?_ | refine swx_asg ?_ | refine swx_ret ?_ | refine ewx_fun ?_ | refine ewx_meth ?_ | refine ewx_make ?_ | refine ewx_sub ?_)
local macro_rules | `(tactic| walk_at "s") => `(tactic| repeat (first | walk_at "s1" | walk_at "s2" | walk_at "sx"))
local macro_rules | `(tactic| walk_at "g1") => `(tactic| with_reducible first
  | refine ew_tup2 ?_ | refine ew_tup3 ?_ | refine ew_tup4 ?_ | refine ew_fldI ?_ | refine sw_fldA ?_ | refine ew_dget1 ?_ | refine ew_dget2 ?_ | refine ow_isN ?_)
local macro_rules | `(tactic| walk_at "g2") => `(tactic| first
  | ((with_reducible refine' gw_tup ?e ?_); (case e => exact rfl))
  | ((with_reducible refine' oi_L ?e ?_); (case e => exact rfl))
  | ((refine' Exists.intro _ (And.intro ?cl (And.intro ?na (And.intro ?e ?_)))); (case cl => assumption); (case na => assumption); (case e => exact rfl))
  | ((refine' Exists.intro _ (Exists.intro _ (Exists.intro _ (Exists.intro _ (And.intro ?e (And.intro ?hm (And.intro ?cl (And.intro ?na (And.intro ?l ?_))))))))); (case e => exact rfl); (case hm => walk_at "m"); (case cl => assumption); (case na => assumption); (case l => exact Nat.le_of_ble_eq_true rfl)))
local macro_rules | `(tactic| walk_at "g") => `(tactic| repeat (first | walk_at "s1" | walk_at "s2" | walk_at "sx" | walk_at "g1" | walk_at "g2"))

section
variable {P : Program} {w : World} {K : PySem.W.Frag} {mg : Str → Option Value} {base : Heap} {a : Ads}
theorem getD_mem2 {ws : List Str} {T : Tab} (h : Svc ws T) {s : Nat} {l : Str} (hs : s < T.length) (hl : l ∈ ws) (ha : ∀ r ∈ T, ∀ x ∈ r, AnsOk x.2) : AnsOk (stp ws T s l).2 := by
  obtain ⟨r, h1, h2, _⟩ := stp_at h hs hl
  exact ha r (List.mem_of_getElem? h1) _ (List.mem_of_getElem? h2)
theorem runF_ans {ws : List Str} {T : Tab} (h : Svc ws T) {s : Nat} (hs : s < T.length) (ha : ∀ r ∈ T, ∀ x ∈ r, AnsOk x.2) (row : List Str) (hr : ∀ l ∈ row, l ∈ ws) : ∀ a ∈ (runF ws T row s).1, AnsOk a := by
  have : ∀ j, ∀ a ∈ (runF ws T (row.take j) s).1, AnsOk a := by
    intro j
    induction j with
    | zero => intro a h; cases h
    | succ j ih =>
      cases c : row[j]? with
      | none =>
        rw [List.take_add_one, c]
        simpa using ih
      | some l =>
        rw [List.take_add_one, c]
        show ∀ a ∈ (runF ws T (row.take j ++ [l]) s).1, _
        rw [runF_snoc]
        intro a ha2
        rcases List.mem_append.mp ha2 with ha2 | ha2
        · exact ih a ha2
        · rw [List.mem_singleton.mp ha2]
          exact getD_mem2 h (runF_lt h hs row hr j) (hr l (List.mem_of_getElem? c)) ha
  have := this row.length
  rwa [List.take_length] at this
theorem runF_in {ws : List Str} {T : Tab} (h : Svc ws T) {s : Nat} (hs : s < T.length) (row : List Str) (hr : ∀ l ∈ row, l ∈ ws) : (runF ws T row s).2 < T.length := by
  have := runF_lt h hs row hr row.length
  rwa [List.take_length] at this
theorem ansD_fl (x : Option Int) : (ansD x).fl 0 = true := by cases x <;> rfl
theorem anss_fl (l : List (Option Int)) : (l.map ansD).all (D.fl 0) = true := by
  rw [List.all_eq_true]
  intro x hx
  obtain ⟨a, _, rfl⟩ := List.mem_map.mp hx
  exact ansD_fl a
theorem runD_fl (q : List (Option Int) × Nat) : (runD q).fl 2 = true := by
  show ((q.1.map ansD).all (D.fl 0) && (true && true)) = true
  rw [anss_fl]
  rfl
theorem grid_norm {n k : Nat} {T : Tab} (h : Grid n k T) : Grid (normT T).length k (normT T) := by
  refine ⟨normT_ok h.ok, rfl, fun r hr => ?_, fun r hr s hs => ?_⟩
  · obtain ⟨x, hx, rfl⟩ := List.mem_map.mp hr
    rw [List.length_map]
    have hl := fin_lt h.ok hx
    rw [List.getD_eq_getElem?_getD, List.getElem?_eq_getElem hl]
    exact h.wid _ (List.getElem_mem hl)
  · obtain ⟨x, hx, rfl⟩ := List.mem_map.mp hr
    have hl := fin_lt h.ok hx
    rw [List.getD_eq_getElem?_getD, List.getElem?_eq_getElem hl] at hs
    obtain ⟨y, hy, rfl⟩ := List.mem_map.mp hs
    exact h.ans _ (List.getElem_mem hl) y hy
theorem tw_run {q : List (Option Int) × Nat} (h : ∀ a ∈ q.1, AnsOk a) (hl : q.1.length ≤ 20) (h2 : q.2 ≤ 1000) : TwQ 2 20000 (runD q).py := by
  refine (TwQ.tup (n := 1) (B := 7000) (N := 2) (xs := [.lst (q.1.map ansD), .int (q.2 : Nat)]) (fun x hx => ?_) (Nat.le_refl 2)).up (Nat.le_refl _) (by omega)
  simp only [List.mem_cons, List.not_mem_nil, or_false] at hx
  rcases hx with rfl | rfl
  · refine (TwQ.list (n := 0) (B := 300) (N := 20) (fun x hx => ?_) (by rw [List.length_map]; exact hl)).up (Nat.le_refl _) (by omega)
    obtain ⟨t, ht, rfl⟩ := List.mem_map.mp hx
    have ha := h t ht
    cases t with
    | none => exact twQ_non
    | some y =>
      have ha : -1000 ≤ y ∧ y ≤ 1000 := ha
      exact twQ_int (by omega)
  · exact (twQ_int (by omega)).up (by decide) (by decide)
theorem tk3 {p : Addr} {c : Cell} {rest : Mem} {n : Nat} {span : Int} {Q : D → Mem → Prop} (hk : Kit n c) (q : ∀ (r : Nat) (c' : Cell), (r : Int) < span → Kit (n + 1) c' → Q (.int (r : Nat)) ((p, c') :: rest)) (hn : n < 2 ^ 40 := by omega) (s0 : 0 < span := by decide) (s1 : span < 2 ^ 200 := by decide) : FSn 2 F_toss [.adr p, .int span] ((p, c) :: rest) Q := use_toss hk hn s0 s1 q
theorem pick2r (x y : Int) {r : Nat} (h : (r : Int) < 2) : L2.atI [D.int x, D.int y] ((r : Nat) : Int) = some (.int (if r = 1 then y else x)) := by
  rcases (by omega : r = 0 ∨ r = 1) with rfl | rfl <;> rfl
theorem pick2 (x y : Int) (b : Bool) : L2.atI [D.int x, D.int y] (if b = true then 1 else 0) = some (.int (if b = true then y else x)) := by cases b <;> rfl
theorem ixN0 {n : Nat} (h : 0 < n) : ixN n 0 = some 0 := by
  unfold ixN
  rw [if_pos (by omega), if_pos (by omega)]
  rfl
def N11 : List Str := ["on", "no", "ab", "ba", "abc", "cab", "bca", "cba", "acb", "bac", "bo"]
theorem N11_nd : N11.Nodup := by decide +kernel
theorem N11_nm : ∀ x ∈ N11, nameB x = true := by decide +kernel
theorem n11_tags {k : Nat} (h : k ≤ 11) : Tags k (N11.take k) :=
  ⟨by rw [List.length_take]; show min k 11 = k; omega, N11_nd.sublist (List.take_sublist _ _), fun x hx => N11_nm x (List.mem_of_mem_take hx)⟩
def F_fits (C : Addr) : FS := fun ds m Q => ∃ (p : Addr) (c : Cell) (n : Nat), ds = [.adr p] ∧ m = [(p, c)] ∧ Kit n c ∧ n + 4000 < 2 ^ 40 ∧ ∀ c' : Cell, Kit (n + 4000) c' → Q (.bl true) [(p, c')]
theorem ok__law_fits (T : Txt K mg a) : DefG P w K mg base 8 a.f__law_fits ["kit"] (FSn 1 (F_fits a.c_Service)) := by
  have nd := sc__law_fits.nd
  have C_Service_run := ok_Service_run (P := P) (w := w) (base := base) T
  have C__law_ran := ok__law_ran (P := P) (w := w) (base := base) T
  have C__law_toss := ok__law_toss (P := P) (w := w) (base := base) T
  have C__law_told_right := ok__law_told_right (P := P) (w := w) (base := base) T
  have C__law_walked := ok__law_walked (P := P) (w := w) (base := base) T
  have C_Service___init__ := ok_Service___init__ (P := P) (w := w) (base := base) T
  have C__law_turned := ok__law_turned (P := P) (w := w) (base := base) T
  have C__law_grid := ok__law_grid (P := P) (w := w) (base := base) T
  have C__law_tags := ok__law_tags (P := P) (w := w) (base := base) T
  refine defOkG T.h__law_fits sc__law_fits (fun _ _ _ h => h.1) (fun cdv A outer s H hg hr => by exact (pss_cons (ps_set (i := 1) nd rfl (Or.inr rfl) (kx_def K rfl C__law_tags (hr.mono (by decide)) rfl T.g__law_tags T.k__law_tags (pa_cons (pv 0) (pa_cons (pe_op op_addU pe_int (kx_def K rfl C__law_toss (hr.mono (by decide)) rfl T.g__law_toss T.k__law_toss (pa_cons (pv 0) (pa_cons (pe_ix (kx_ix K rfl hr.units) (pe_lst (pa_cons pe_int (pa_cons pe_int pa_nil))) (kx_def K rfl C__law_toss (hr.mono (by decide)) rfl T.g__law_toss T.k__law_toss (pa_cons (pv 0) (pa_cons pe_int pa_nil))) (fun _ _ => rfl)) pa_nil)))) pa_nil))))
    (pss_cons (ps_if (pt_cmpR (kx_eqU K rfl hr.units) (kx_def K rfl C__law_toss (hr.mono (by decide)) rfl T.g__law_toss T.k__law_toss (pa_cons (pv 0) (pa_cons pe_int pa_nil))) pe_int (nomark _)) (pss_one (ps_set (i := 1) nd rfl (Or.inr rfl) (pe_slice (kx_sl K rfl) (pe_lst (pa_cons pe_str (pa_cons pe_str (pa_cons pe_str (pa_cons pe_str (pa_cons pe_str (pa_cons pe_str (pa_cons pe_str (pa_cons pe_str (pa_cons pe_str (pa_cons pe_str (pa_cons pe_str pa_nil)))))))))))) po_none (po_some (pe_callB (kx_len K rfl) (by rfl) T.n_len (by decide +kernel) (pa_cons (pv 1) pa_nil)))))) pss_nil)
    (pss_cons (ps_set (i := 2) nd rfl (Or.inl rfl) (kx_def K rfl C__law_grid (hr.mono (by decide)) rfl T.g__law_grid T.k__law_grid (pa_cons (pv 0) (pa_cons (pe_op op_addU pe_int (kx_def K rfl C__law_toss (hr.mono (by decide)) rfl T.g__law_toss T.k__law_toss (pa_cons (pv 0) (pa_cons (pe_ix (kx_ix K rfl hr.units) (pe_lst (pa_cons pe_int (pa_cons pe_int pa_nil))) (pe_callTy cr_int1 (by rfl) T.n_int (by decide +kernel) (pa_cons (pe_cmpR (kx_eqU K rfl hr.units) (kx_def K rfl C__law_toss (hr.mono (by decide)) rfl T.g__law_toss T.k__law_toss (pa_cons (pv 0) (pa_cons pe_int pa_nil))) pe_int (nomark _)) pa_nil)) (fun _ _ => rfl)) pa_nil)))) (pa_cons (pe_callB (kx_len K rfl) (by rfl) T.n_len (by decide +kernel) (pa_cons (pv 1) pa_nil)) pa_nil)))))
    (pss_cons (ps_par (i := 3) (j := 4) rfl nd rfl rfl (by decide) rfl rfl (pa_cons (kx_def K rfl C__law_walked (hr.mono (by decide)) rfl T.g__law_walked T.k__law_walked (pa_cons (pv 2) pa_nil)) (pa_cons (kx_def K rfl C__law_turned (hr.mono (by decide)) rfl T.g__law_turned T.k__law_turned (pa_cons (pv 0) (pa_cons (pv 2) pa_nil))) pa_nil)) (by rfl))
    (pss_cons (ps_set (i := 5) nd rfl (Or.inl rfl) (pe_lst (pa_cons (pe_callTy (kx_list K rfl) (by rfl) T.n_list (by decide +kernel) (pa_cons (pv 1) pa_nil)) (pa_cons (pe_lc (own := [("line", 9)]) (g := (gName 9)) (tt := tYes) rfl nd (kx_pi K rfl (pv 4)) (blkOk_by (own := [("line", 9)]) (N := N__law_fits) (sc := defScope s__law_fits) (by decide +kernel)) (fun _ _ _ _ _ => (pg_name (i := 9) nd rfl (by first | exact Or.inl rfl | exact Or.inr rfl))) (fun _ _ _ _ _ => pts_nil) (fun _ _ _ _ _ => (pe_callTy (kx_list K rfl) (by rfl) T.n_list (by decide +kernel) (pa_cons (pv 9) pa_nil)))) pa_nil))))
    (pss_cons (ps_par (i := 6) (j := 7) rfl nd rfl rfl (by decide) rfl rfl (pa_cons (kx_make K rfl T.mk_Service C_Service___init__ (hr.mono (by decide)) rfl T.g_Service (pa_cons (pe_ix (kx_ix K rfl hr.units) (pv 5) pe_int (fun _ _ => rfl)) (pa_cons (pe_ix (kx_ix K rfl hr.units) (pv 5) pe_int (fun _ _ => rfl)) pa_nil))) (pa_cons (kx_makeS0 K rfl T.mk_Service C_Service___init__ T.kb_Service___init___1_table_names (hr.mono (by decide)) rfl T.g_Service  (pk_cons (pe_ix (kx_ix K rfl hr.units) (pv 5) pe_int (fun _ _ => rfl)) (pk_cons (pe_ix (kx_ix K rfl hr.units) (pv 5) pe_int (fun _ _ => rfl)) pk_nil))) pa_nil)) (by rfl))
    (pss_cons (ps_if (pt_cmpR (kx_neU K rfl hr.units) (pv 5) (pe_lst (pa_cons (pv 1) (pa_cons (pv 4) pa_nil))) (nomark _)) (pss_one (ps_ret pe_bl)) pss_nil)
    (pss_cons (ps_expr (kx_bm K rfl PySem.F.plainAttrs_list PySem.F.slot_list_append PySem.F.type_list_append mt_append (pe_ix (kx_ix K rfl hr.units) (pv 5) pe_int (fun _ _ => rfl)) (pa_cons pe_str pa_nil)))
    (pss_cons (ps_asg pe_str (pg_sub (pe_ix (kx_ix K rfl hr.units) (pv 5) pe_int (fun _ _ => rfl)) pe_int set_list))
    (pss_cons (ps_set (i := 8) nd rfl (Or.inl rfl) (pe_cmpR (kx_eqU K rfl hr.units) (kx_def K rfl C__law_toss (hr.mono (by decide)) rfl T.g__law_toss T.k__law_toss (pa_cons (pv 0) (pa_cons pe_int pa_nil))) pe_int (nomark _)))
    (pss_cons (ps_for PassesOwn.never rfl (kx_pi K rfl (pe_ix (kx_ix K rfl hr.units) (pv 5) pe_int (fun _ _ => rfl))) (pg_name (i := 9) nd rfl (Or.inr rfl)) (pss_cons (ps_expr (kx_bm K rfl PySem.F.plainAttrs_list PySem.F.slot_list_append PySem.F.type_list_append mt_append (pv 9) (pa_cons (pe_tup (pa_cons pe_int (pa_cons pe_int pa_nil))) pa_nil)))
    (pss_cons (ps_asg (pe_tup (pa_cons pe_int (pa_cons pe_int pa_nil))) (pg_sub (pv 9) pe_int set_list))
    (pss_one (ps_if (pt_val (pv 8)) (pss_one (ps_expr (kx_bm0 K rfl PySem.F.plainAttrs_list PySem.F.slot_list_clear PySem.F.type_list_clear mt_clear (pv 9)))) pss_nil)))))
    (pss_cons (ps_expr (kx_bm K rfl PySem.F.plainAttrs_list PySem.F.slot_list_append PySem.F.type_list_append mt_append (pe_ix (kx_ix K rfl hr.units) (pv 5) pe_int (fun _ _ => rfl)) (pa_cons (pe_lst pa_nil) pa_nil)))
    (pss_cons (ps_expr (kx_bm0 K rfl PySem.F.plainAttrs_list PySem.F.slot_list_reverse PySem.F.type_list_reverse mt_reverse (pe_ix (kx_ix K rfl hr.units) (pv 5) pe_int (fun _ _ => rfl))))
    (pss_cons (ps_if (pt_cmpR (kx_neU K rfl hr.units) (kx_def K rfl C__law_walked (hr.mono (by decide)) rfl T.g__law_walked T.k__law_walked (pa_cons (pv 4) pa_nil)) (pv 3) (nomark _)) (pss_one (ps_ret pe_bl)) pss_nil)
    (pss_cons (ps_if (PW.pt (pw_or (pt_not (pt_val (kx_defG K rfl hg C__law_told_right (hr.mono (by decide)) rfl T.g__law_told_right T.k__law_told_right (pa_cons (pv 6) (pa_cons (pv 1) (pa_cons (pv 3) pa_nil)))))) (pw_or1 (pt_not (pt_val (kx_defG K rfl hg C__law_told_right (hr.mono (by decide)) rfl T.g__law_told_right T.k__law_told_right (pa_cons (pv 7) (pa_cons (pv 1) (pa_cons (pv 3) pa_nil))))))))) (pss_one (ps_ret pe_bl)) pss_nil)
    (pss_cons (ps_for PassesOwn.never rfl (pi_range1 (by rfl) T.n_range (pa_cons (pe_callB (kx_len K rfl) (by rfl) T.n_len (by decide +kernel) (pa_cons (pv 3) pa_nil)) pa_nil)) (pg_name (i := 10) nd rfl (Or.inr rfl)) (pss_cons (ps_set (i := 9) nd rfl (Or.inr rfl) (pe_lc (own := [("step", 12)]) (g := (gName 12)) (tt := tYes) rfl nd (pi_range1 (by rfl) T.n_range (pa_cons (kx_def K rfl C__law_toss (hr.mono (by decide)) rfl T.g__law_toss T.k__law_toss (pa_cons (pv 0) (pa_cons pe_int pa_nil))) pa_nil)) (blkOk_by (own := [("step", 12)]) (N := N__law_fits) (sc := defScope s__law_fits) (by decide +kernel)) (fun _ _ _ _ _ => (pg_name (i := 12) nd rfl (by first | exact Or.inl rfl | exact Or.inr rfl))) (fun _ _ _ _ _ => pts_nil) (fun _ _ _ _ _ => (pe_ix (kx_ix K rfl hr.units) (pv 1) (kx_def K rfl C__law_toss (hr.mono (by decide)) rfl T.g__law_toss T.k__law_toss (pa_cons (pv 0) (pa_cons (pe_callB (kx_len K rfl) (by rfl) T.n_len (by decide +kernel) (pa_cons (pv 1) pa_nil)) pa_nil))) (fun _ _ => rfl)))))
    (pss_cons (ps_set (i := 11) nd rfl (Or.inl rfl) (pe_callB (kx_reprU K rfl hg (h66 hr)) (by rfl) T.n_repr (by decide +kernel) (pa_cons (kx_def K rfl C__law_ran (hr.mono (by decide)) rfl T.g__law_ran T.k__law_ran (pa_cons (pv 1) (pa_cons (pv 3) (pa_cons (pv 9) (pa_cons (pv 10) pa_nil))))) pa_nil)))
    (pss_one (ps_if (pt_cmpR (kx_neU K rfl hr.units) (pe_lc (own := [("made", 13)]) (g := (gName 13)) (tt := tYes) rfl nd (kx_pi K rfl (pe_tup (pa_cons (pv 6) (pa_cons (pv 7) pa_nil)))) (blkOk_by (own := [("made", 13)]) (N := N__law_fits) (sc := defScope s__law_fits) (by decide +kernel)) (fun _ _ _ _ _ => (pg_name (i := 13) nd rfl (by first | exact Or.inl rfl | exact Or.inr rfl))) (fun _ _ _ _ _ => pts_nil) (fun _ _ _ _ _ => (pe_callB (kx_reprU K rfl hg (h66 hr)) (by rfl) T.n_repr (by decide +kernel) (pa_cons (kx_meth K rfl (pv 13) T.cl_Service T.m_Service_run C_Service_run (hr.mono (by decide)) (pa_cons (pv 9) (pa_cons (pv 10) pa_nil))) pa_nil)))) (pe_lst (pa_cons (pv 11) (pa_cons (pv 11) pa_nil))) (nomark _)) (pss_one (ps_ret pe_bl)) pss_nil)))))
    (pss_one (ps_ret pe_bl))))))))))))))))))) (fun ds m Q h => ?_)
  replace h := h.2
  clear nd
  have gS := T.g_Service
  obtain ⟨p, c, n, rfl, rfl, hk, hn, q⟩ := h
  refine sw_free ?_
  walk_at "g"
  refine ew_l2 ?_
  walk_at "g"
  refine tk3 hk fun r1 c1 h1 k1 => ?_
  refine oi_L (pick2r 5 11 h1) ?_
  have hs1 : (if r1 = 1 then (11 : Int) else 5) ≤ 11 ∧ 5 ≤ (if r1 = 1 then (11 : Int) else 5) := by split <;> omega
  walk_at "g"
  refine tk3 k1 (fun cn c2 h2 k2 => ?_) (by omega) (by omega) (by omega)
  walk_at "g"
  refine ⟨rfl, p, c2, [], _, 1 + cn, by rw [Int.natCast_add]; rfl, rfl, k2, by omega, by omega, fun ws c3 tg k3 => ?_⟩
  refine sw_seqJ (fun δ' m' => ∃ (ws : List Str) (c' : Cell), Tags (1 + cn) ws ∧ Kit (n + 30) c' ∧ δ' = [some (.adr p), some (.lst (ws.map .str)), none, none, none, none, none, none, none, none, none, none, none, none] ∧ m' = [(p, c')]) ?_ ?_
  · refine sw_if ?_
    walk_at "g"
    refine tk3 k3 fun r4 c4 h4 k4 => ?_
    walk_at "g"
    refine iteD (fun h0 => ?_) (fun h0 => ?_)
    · walk_at "g"
      refine ew_lst ?_
      walk_at "g"
      refine ⟨Nat.le_of_ble_eq_true rfl, ?_⟩
      walk_at "g"
      rw [List.length_map, cut_to (by omega), Int.toNat_natCast, tg.len]
      rw [show [D.str (Str.ofString "on"), D.str (Str.ofString "no"), D.str (Str.ofString "ab"), D.str (Str.ofString "ba"), D.str (Str.ofString "abc"), D.str (Str.ofString "cab"), D.str (Str.ofString "bca"), D.str (Str.ofString "cba"), D.str (Str.ofString "acb"), D.str (Str.ofString "bac"), D.str (Str.ofString "bo")] = N11.map D.str from rfl, ← List.map_take]
      exact ⟨N11.take (1 + cn), c4, n11_tags (by omega), k4.up (by omega), rfl, rfl⟩
    · walk_at "g"
      exact ⟨ws, c4, tg, k4.up (by omega), rfl, rfl⟩
  clear tg k3
  clear ws c3
  rintro δ' m' ⟨ws, c3, tg, k3, rfl, rfl⟩
  have hwl := tg.len
  walk_at "g"
  refine ew_l2 ?_
  walk_at "g"
  refine tk3 k3 fun r4 c4 h4 k4 => ?_
  walk_at "g"
  refine oi_L (pick2 5 25 _) ?_
  have hs2 : (if decide ((r4 : Int) = 0) = true then (25 : Int) else 5) ≤ 25 ∧ 5 ≤ (if decide ((r4 : Int) = 0) = true then (25 : Int) else 5) := by split <;> omega
  walk_at "g"
  refine tk3 k4 (fun sn c5 h5 k5 => ?_) (by omega) (by omega) (by omega)
  walk_at "g"
  rw [List.length_map, hwl]
  refine ⟨rfl, p, c5, [], _, 1 + sn, 1 + cn, ?_, rfl, k5, by omega, by omega, by omega, by omega, fun T0 c6 gr k6 => ?_⟩
  · rw [Int.natCast_add 1 sn]
    rfl
  have hTl := gr.len
  have hTw : ∀ r ∈ T0, r.length ≤ 14 := fun r hr => by rw [gr.wid r hr]; omega
  walk_at "g"
  refine ⟨rfl, T0, rfl, gr.ok, by omega, fun r hr => by have := hTw r hr; omega, ?_⟩
  walk_at "g"
  refine ⟨rfl, p, c6, [], _, T0, rfl, rfl, k6, by omega, gr.ok, by omega, hTw, fun π c7 tu k7 => ?_⟩
  have oN := normT_perm gr.ok tu
  have ok2 := permT_ok gr.ok tu
  have wid2 : ∀ r ∈ permT π T0, r.length = ws.length := fun r hr => by
    obtain ⟨a', ha, rfl⟩ := List.mem_map.mp hr
    have hal := tu.mem.mp ha
    rw [List.length_map, List.getD_eq_getElem?_getD, List.getElem?_eq_getElem hal, hwl]
    exact gr.wid _ (List.getElem_mem hal)
  have len2 : (permT π T0).length ≤ 25 := by rw [permT_len, tu.len]; omega
  generalize permT π T0 = T2 at oN ok2 wid2 len2 ⊢
  walk_at "g"
  refine ew_lst (aw_cons (ew_listM ?_))
  walk_at "g"
  refine ⟨_, .of, fun zn => ?_⟩
  refine aw_cons (ew_cellsF stepD (tame_name (by decide)) (iw_any ?_))
  walk_at "g"
  refine ⟨_, .inl rfl, T2, rfl, le_sz (by omega), ?_, fun zs zt hz => aw_nil ⟨Nat.le_of_ble_eq_true rfl, ?_⟩⟩
  · intro b acc m' z hb
    walk_at "g"
    refine ⟨rfl, ?_⟩
    refine ew_listM ?_
    walk_at "g"
    exact ⟨_, .of, fun z2 => ⟨z2, rfl, rfl⟩⟩
  rw [show [(p, c7)] ++ [(zn, Cell.lst (List.map D.str ws))] ++ cellsF stepD zs T2 ++ [(zt, Cell.lst (List.map D.adr zs))] = (p, c7) :: handM zn zt zs ws T2 from rfl]
  have svi : SvcIn ws T2 := ⟨ok2, wid2, tg.nm, tg.nd, by omega, by omega⟩
  have kfl : ∀ x ∈ [(p, c7)], x.2.flat = true := fun x hx => by
    rw [List.mem_singleton.mp hx]
    obtain ⟨k1, k2, k3, e, _⟩ := k7
    show c7.flat = true
    rw [e]
    rfl
  refine sw_seq (sw_par (aw_cons (ew_make (dd := []) (fun F => .nil) ?_)))
  walk_at "g"
  intro p2
  refine ⟨rfl, [(p, c7)], p2, zn, zt, zs, ws, T2, rfl, rfl, kfl, hz, svi, fun fs hfs => ⟨rfl, _, fs, rfl, ?_⟩⟩
  rw [← hfs]
  refine aw_cons (ew_makeS ?_)
  walk_at "g"
  refine ⟨rfl, rfl, fun p3 => ⟨rfl, [(p, c7)], p3, zn, zt, zs, ws, T2, rfl, rfl, kfl, hz, svi, fun fs2 hfs2 => ⟨rfl, _, fs2, rfl, ?_⟩⟩⟩
  rw [← hfs2]
  refine aw_nil ⟨_, _, rfl, ?_⟩
  rw [oN]
  have gn := grid_norm gr
  have hNl : (normT T0).length ≤ 25 := by
    rw [normT_len]
    exact Nat.le_trans (fin_len gr.ok) (by omega)
  have srv : Srv ws (normT T0) := ⟨⟨gn.ok, fun r hr => by rw [gn.wid r hr, tg.len], fun x hx => name_ok (tg.nm x hx), by omega, by rw [tg.len]; omega⟩, tg.nd⟩
  have szS : SzS ws (normT T0) := ⟨by omega, hNl, fun x hx => name_ok (tg.nm x hx), fun x hx => by have := nameB_len (tg.nm x hx); omega, fun r hr => by rw [gn.wid r hr]; omega, gn.ans, fun r hr s hs => by have := gn.ok.lt r hr s hs; omega⟩
  have hpN := gn.ok.pos
  have nbd : (D.lst [.lst (ws.map .str), tabD T2]).nb 4 = true := by
    show ((ws.map D.str).all (D.nb 2) && ((tabD T2).nb 3 && true)) = true
    rw [tabD_nb, List.all_eq_true.mpr fun x hx => by obtain ⟨y, hy, rfl⟩ := List.mem_map.mp hx; exact name_ok (tg.nm y hy)]
    rfl
  refine sw_seq (sw_if ?_)
  walk_at "g"
  refine ew_l2 ?_
  walk_at "g"
  refine oq_neR 4 (d := D.lst [.lst (ws.map .str), tabD T2]) (e := D.lst [.lst (ws.map .str), tabD T2]) ?_ (Res.fl (nb_fl 4 _ nbd)) nbd nbd fun b hb => ?_
  · rw [show (D.lst [.lst (ws.map .str), tabD T2]).py = .list [(D.lst (ws.map .str)).py, (tabD T2).py] by simp only [D.py, D.pyL]]
    refine Res.lst (.cons ?_ (.cons ?_ .nil))
    · exact res_S (.at_ (MAt.of_mem (x := (zn, _)) (List.mem_cons_of_mem _ handM_n))) szS.ok
    · rw [show (tabD T2).py = .list (D.pyL (T2.map (lstF stepD))) by simp only [D.py]]
      exact Res.adr (MAt.of_mem (x := (zt, _)) (List.mem_cons_of_mem _ handM_t)) (resL_cells (n := 1) steps_fl hz fun x hx => List.mem_cons_of_mem _ (handM_r x hx))
  rw [hb.mpr rfl]
  walk_at "g"
  rw [if_neg (by decide)]
  unfold handM
  rw [cellsF_id]
  have hG0 : (T2.map fun r => r.map stepD).length = zs.length := by rw [List.length_map, hz]
  have hG1 : ∀ g ∈ T2.map (fun r => r.map stepD), g.length ≤ 20 := fun g hg => by
    obtain ⟨r, hr, rfl⟩ := List.mem_map.mp hg
    rw [List.length_map, wid2 r hr]
    omega
  generalize T2.map (fun r => r.map stepD) = G0 at hG0 hG1
  walk_at "g"
  refine ⟨zn, _, 0, 0, (p, c7) :: (zn, Cell.lst ((List.map D.str ws ++ [D.str (Str.ofString "zz")]).set 0 (D.str (Str.ofString "zzz")))) :: (cellsF id zs G0 ++ [(zt, Cell.lst (List.map D.adr zs))]), rfl, rfl, MUp.cons MUp.zero, ixN0 (by rw [List.length_append]; exact Nat.succ_pos _), ?_⟩
  generalize (List.map D.str ws ++ [D.str (Str.ofString "zz")]).set 0 (D.str (Str.ofString "zzz")) = X
  walk_at "g"
  refine tk3 k7 (fun r8 c8 h8 k8 => ?_) (by omega)
  walk_at "g"
  refine sw_forQ ?_
  walk_at "g"
  refine ⟨Addr, zs, D.adr, .at_ (by walk_at "m"), fun j δ' m' => ∃ (G : List (List D)) (x9 : Option D), G.length = zs.length ∧ (∀ g ∈ G, g.length ≤ 20 + j) ∧ δ' = [some (.adr p), some (.lst (ws.map .str)), some (tabD T0), some (tabD (normT T0)), some (tabD T2), some (.lst [.adr zn, .adr zt]), some (srvD a.c_Service ws (normT T0)), some (srvD a.c_Service ws (normT T0)), some (.bl (decide ((r8 : Int) = 0))), x9, none, none, none, none] ∧ m' = (p, c8) :: (zn, Cell.lst X) :: (cellsF id zs G ++ [(zt, Cell.lst (List.map D.adr zs))]), ?_, ?_, ?_, ?_⟩
  · exact ⟨G0, _, hG0, hG1, rfl, rfl⟩
  · rintro j δ' m' ⟨G, x9, hG, hGl, rfl, rfl⟩
    exact .at_ (by walk_at "m")
  · rintro j z δ' m' hj ⟨G, x9, hG, hGl, rfl, rfl⟩
    have hjl := (List.getElem?_eq_some_iff.mp hj).1
    have hg : G[j]? = some (G[j]'(by omega)) := List.getElem?_eq_getElem (by omega)
    have hgl := hGl _ (List.getElem_mem (by omega : j < G.length))
    generalize G[j]'(by omega) = g at hg hgl
    have hup : ∀ {G2 : List (List D)} {g2 : List D} (g3 : List D), G2[j]? = some g2 → MUp ((p, c8) :: (zn, Cell.lst X) :: (cellsF id zs G2 ++ [(zt, Cell.lst (List.map D.adr zs))])) z (.lst g2) (.lst g3) ((p, c8) :: (zn, Cell.lst X) :: (cellsF id zs (G2.set j g3) ++ [(zt, Cell.lst (List.map D.adr zs))])) := fun {G2 g2} g3 h => by
      have := cellsF_up (f := id) hj h g3
      rw [List.map_id, List.map_id] at this
      exact (this.app.cons).cons
    have h1 := hup (g ++ [.tup [.int 0, .int 0]]) hg
    have hjz : j < 30 := by omega
    have hgj : j < G.length := by omega
    have e2 : (G.set j (g ++ [D.tup [.int 0, .int 0]]))[j]? = some (g ++ [D.tup [.int 0, .int 0]]) := List.getElem?_set_self hgj
    have h2 := hup ((g ++ [D.tup [.int 0, .int 0]]).set 0 (D.tup [.int 0, .int 77])) e2
    have e3 : ((G.set j (g ++ [D.tup [.int 0, .int 0]])).set j ((g ++ [D.tup [.int 0, .int 0]]).set 0 (D.tup [.int 0, .int 77])))[j]? = some ((g ++ [D.tup [.int 0, .int 0]]).set 0 (D.tup [.int 0, .int 77])) := List.getElem?_set_self (by rw [List.length_set]; exact hgj)
    have h3 := hup [] e3
    walk_at "g"
    refine ⟨ty_A h1.at_, ?_⟩
    walk_at "g"
    first | refine ma_app h1 (lt_sz (by omega)) ?_ | skip
    walk_at "g"
    refine ⟨z, _, 0, 0, _, rfl, rfl, h2, ixN0 (by rw [List.length_append]; show 0 < g.length + 1; omega), ?_⟩
    have l1 : ∀ g' ∈ (G.set j (g ++ [D.tup [.int 0, .int 0]])).set j ((g ++ [D.tup [.int 0, .int 0]]).set 0 (D.tup [.int 0, .int 77])), g'.length ≤ 20 + (j + 1) := fun g' hg' => by
      rcases List.mem_or_eq_of_mem_set hg' with h | rfl
      · rcases List.mem_or_eq_of_mem_set h with h | rfl
        · have := hGl g' h; omega
        · rw [List.length_append]; show g.length + 1 ≤ _; omega
      · rw [List.length_set, List.length_append]; show g.length + 1 ≤ _; omega
    have l2 : ((G.set j (g ++ [D.tup [.int 0, .int 0]])).set j ((g ++ [D.tup [.int 0, .int 0]]).set 0 (D.tup [.int 0, .int 77]))).length = zs.length := by rw [List.length_set, List.length_set, hG]
    generalize (G.set j (g ++ [D.tup [.int 0, .int 0]])).set j ((g ++ [D.tup [.int 0, .int 0]]).set 0 (D.tup [.int 0, .int 77])) = G2 at l1 l2 h3
    refine sw_if ?_
    walk_at "g"
    refine iteD (fun h0 => ?_) (fun h0 => ?_)
    · walk_at "g"
      refine ⟨ty_A h3.at_, ?_⟩
      walk_at "g"
      first | refine ma_clr h3 ?_ | skip
      refine ⟨_, _, by rw [List.length_set]; exact l2, fun g' hg' => ?_, rfl, rfl⟩
      rcases List.mem_or_eq_of_mem_set hg' with h | rfl
      · exact l1 g' h
      · exact Nat.zero_le _
    · walk_at "g"
      exact ⟨G2, _, l2, l1, rfl, rfl⟩
  rintro δ' m' ⟨G, x9, hG, hGl, rfl, rfl⟩
  walk_at "g"
  refine ew_lst ?_
  walk_at "g"
  refine ⟨Nat.le_of_ble_eq_true rfl, ?_⟩
  walk_at "g"
  refine ma_rev (m' := (p, c8) :: ((zn, Cell.lst X) :: (cellsF id zs G ++ [(zt, Cell.lst (List.map D.adr zs ++ [D.lst []]).reverse)]))) (MUp.cons (MUp.cons MUp.last)) ?_
  generalize (zn, Cell.lst X) :: (cellsF id zs G ++ [(zt, Cell.lst (List.map D.adr zs ++ [D.lst []]).reverse)]) = gb
  clear hG hGl
  refine sw_seq (sw_if ?_)
  walk_at "g"
  refine ⟨rfl, T2, rfl, ok2, by omega, fun r hr => by rw [wid2 r hr]; omega, ?_⟩
  rw [oN]
  walk_at "g"
  refine oq_ne 3 (tabD_nb _) (tabD_nb _) fun b hb => ?_
  rw [hb.mpr rfl]
  walk_at "g"
  rw [if_neg (by decide)]
  walk_at "g"
  refine sw_if ?_
  walk_at "g"
  refine ⟨rfl, ws, normT T0, rfl, srv, szS, ?_⟩
  walk_at "g"
  rw [if_neg (by decide)]
  walk_at "g"
  refine ⟨rfl, ws, normT T0, rfl, srv, szS, ?_⟩
  walk_at "g"
  rw [if_neg (by decide)]
  walk_at "g"
  generalize hN : normT T0 = N at *
  refine sw_forN ?_
  walk_at "g"
  rw [List.length_map]
  refine ⟨by omega, fun j δ' m' => ∃ (c' : Cell) (x9 x10 x11 x12 x13 : Option D), Kit (n + 3100 + 10 * j) c' ∧ δ' = [some (.adr p), some (.lst (ws.map .str)), some (tabD T0), some (tabD N), some (tabD T2), some (.lst [.adr zn, .adr zt]), some (srvD a.c_Service ws N), some (srvD a.c_Service ws N), some (.bl (decide ((r8 : Int) = 0))), x9, x10, x11, x12, x13] ∧ m' = (p, c') :: gb, ?_, ?_, ?_⟩
  · exact ⟨c8, _, _, _, _, _, k8.up (by omega), rfl, rfl⟩
  · rintro j δ' m' hj ⟨c', x9, x10, x11, x12, x13, kc, rfl, rfl⟩
    walk_at "g"
    refine ew_lcD (α := Nat) D.str (fun _ l => l ∈ ws) (fun i m' => ∃ c' : Cell, m' = (p, c') :: gb ∧ Kit (n + 3100 + 10 * j + 1 + i) c') (tame_name (by decide)) (iw_rngN ?_)
    walk_at "g"
    refine tk3 kc fun width c9 h6 k9 => ?_
    walk_at "g"
    refine ⟨by omega, List.range width, _, rfl, by rw [List.length_range]; exact le_sz (by omega), ⟨c9, rfl, k9⟩, ?_, ?_⟩
    · rintro i x acc m' z hx ⟨c', rfl, kc⟩
      obtain ⟨hi, rfl⟩ := range_get hx
      walk_at "g"
      refine ⟨rfl, ?_⟩
      walk_at "g"
      rw [List.length_map, tg.len]
      refine tk3 (rest := gb ++ [(z, Cell.lst acc)]) kc (fun r7 c10 h7 k10 => ?_) (by omega) (by omega) (by omega)
      have hr7 : r7 < ws.length := by rw [tg.len]; omega
      refine oi_L (at_map (f := D.str) (List.getElem?_eq_getElem hr7)) ?_
      exact ⟨_, _, rfl, List.getElem_mem hr7, rfl, c10, rfl, k10⟩
    rintro row m' hl hrow ⟨c10, rfl, k10⟩
    rw [List.length_range] at hl k10
    have hrm : ∀ l ∈ row, l ∈ ws := fun l hl => by
      obtain ⟨i, hi⟩ := List.getElem?_of_mem hl
      exact hrow i l hi
    have hq := runF_ans srv.toSvc hj gn.ans row hrm
    have hb := runF_in srv.toSvc hj row hrm
    have hql := runF_len ws N j row
    walk_at "g"
    refine ⟨rfl, ws, N, row, j, _, rfl, .of, srv.toSvc, hrm, by omega, hj, ?_⟩
    have twr := tw_run (q := runF ws N row j) hq (by omega) (by omega)
    walk_at "g"
    refine cw_showU (Res.fl (runD_fl _)) (.inr (.inl ⟨_, rfl⟩)) twr.shw (by decide) (le_sz (by omega)) ?_
    have twro := twr.ok
    have hrun : ∀ {mm : Mem} {Q : D → Mem → Prop}, Q (.str (runD (runF ws N row j)).py.shown) mm → CW K (rReprU K) [runD (runF ws N row j)] mm Q := fun {mm Q} q =>
      cw_showU (Res.fl (runD_fl _)) (.inr (.inl ⟨_, rfl⟩)) twr.shw (by decide) (le_sz (by omega)) q
    have ho : outS N.length ((j : Nat) : Int) = false := by
      unfold outS
      rw [decide_eq_true (by omega : (0 : Int) ≤ (j : Nat)), decide_eq_true (by omega : ((j : Nat) : Int) < (N.length : Int))]
      rfl
    have hst : strayF ws row = none := List.find?_eq_none.mpr fun l hl => by simpa using hrm l hl
    generalize htx : (runD (runF ws N row j)).py.shown = tx at twro hrun
    walk_at "g"
    refine sw_if ?_
    walk_at "g"
    refine ew_lcF (tame_name (by decide)) (iw_any ?_)
    walk_at "g"
    refine ⟨_, .inr rfl, Nat, [0, 1], fun _ => srvD a.c_Service ws N, fun _ => .str tx, rfl, Nat.le_of_ble_eq_true rfl, ?_, ?_⟩
    · intro x acc z hx
      walk_at "g"
      refine ⟨rfl, ?_⟩
      refine ew_cb (aw_cons (ew_stillT (ew_meth (dd := []) (fun F => .nil) ?_)))
      walk_at "g"
      refine ⟨rfl, ?_⟩
      walk_at "g"
      refine ⟨rfl, ws, N, row, j, _, rfl, .of, srv, by omega, (fun h => by rw [ho] at h; cases h), (fun _ l h => by rw [hst] at h; cases h), fun _ _ z3 => ⟨z3, _, _, _, _, rfl, rfl, rfl, aw_nil ?_⟩⟩
      rw [Int.toNat_natCast]
      exact hrun ⟨rfl, rfl⟩
    walk_at "g"
    refine ew_l2 ?_
    walk_at "g"
    refine oS_neSame (ws := [tx, tx]) .of .of (fun x hx => by rcases (by simpa using hx : x = tx) with rfl; exact twro) ?_
    walk_at "g"
    rw [if_neg (by decide)]
    walk_at "g"
    exact ⟨c10, _, _, _, _, _, k10.up (by omega), rfl, rfl⟩
  · rintro δ' m' ⟨c', x9, x10, x11, x12, x13, kc, rfl, rfl⟩
    walk_at "g"
    exact ⟨[(p, c')], Gb.refl.app, q c' (kc.up (by omega))⟩
theorem capR (n : Nat) : ∃ kk : Nat, (if (if (n : Int) < 24 then (n : Int) else 24) > 1 then (if (n : Int) < 24 then (n : Int) else 24) else 1) = (kk : Int) ∧ kk ≤ 24 := by
  by_cases h : (n : Int) < 24
  · rw [if_pos h]
    by_cases h1 : (n : Int) > 1
    · rw [if_pos h1]
      exact ⟨n, rfl, by omega⟩
    · rw [if_neg h1]
      exact ⟨1, rfl, by omega⟩
  · rw [if_neg h, if_pos (by decide)]
    exact ⟨24, rfl, by omega⟩
def F_law : FS := fun ds m Q => ∃ ns : List Int, ds = [.scr ns] ∧ m = [] ∧ ∀ m', Q (.bl true) m'
theorem ok_law (T : Txt K mg a) : DefG P w K mg base 9 a.f_law ["script"] (FSn 1 (F_law)) := by
  have nd := sc_law.nd
  have C__law_fits := ok__law_fits (P := P) (w := w) (base := base) T
  have C__law_kit := ok__law_kit (P := P) (w := w) (base := base) T
  refine defOkG T.h_law sc_law (fun _ _ _ h => h.1) (fun cdv A outer s H hg hr => by exact (pss_cons (ps_for PassesOwn.never rfl (pi_range1 (by rfl) T.n_range (pa_cons (pe_callB (cr_mx2 rfl) (by rfl) T.n_max (by decide +kernel) (pa_cons pe_int (pa_cons (pe_callB (cr_mn2 rfl) (by rfl) T.n_min (by decide +kernel) (pa_cons pe_int (pa_cons (pe_callB (kx_len K rfl) (by rfl) T.n_len (by decide +kernel) (pa_cons (pv 0) pa_nil)) pa_nil))) pa_nil))) pa_nil)) (pg_name (i := 1) nd rfl (Or.inl rfl)) (pss_cons (ps_set (i := 2) nd rfl (Or.inl rfl) (kx_def K rfl C__law_kit (hr.mono (by decide)) rfl T.g__law_kit T.k__law_kit (pa_cons (pv 0) (pa_cons (pv 1) pa_nil))))
    (pss_one (ps_for PassesOwn.never rfl (pi_range1 (by rfl) T.n_range (pa_cons pe_int pa_nil)) (pg_name (i := 3) nd rfl (Or.inl rfl)) (pss_one (ps_if (pt_not (pt_val (kx_defG K rfl hg C__law_fits (hr.mono (by decide)) rfl T.g__law_fits T.k__law_fits (pa_cons (pv 2) pa_nil)))) (pss_one (ps_ret pe_bl)) pss_nil))))))
    (pss_one (ps_ret pe_bl)))) (fun ds m Q h => ?_)
  replace h := h.2
  clear nd
  obtain ⟨ns, rfl, rfl, q⟩ := h
  obtain ⟨kk, ek, hkk⟩ := capR ns.length
  walk_at "g"
  refine sw_forN ?_
  walk_at "g"
  rw [ek]
  refine ⟨kk, rfl, by omega, fun j δ' m' => ∃ x1 x2 x3 : Option D, δ' = [some (.scr ns), x1, x2, x3] ∧ m' = [], ⟨_, _, _, rfl, rfl⟩, ?_, ?_⟩
  · rintro j δ' m' hj ⟨x1, x2, x3, rfl, rfl⟩
    refine gw_name (sw_free ?_)
    walk_at "g"
    refine ⟨rfl, ns, j, rfl, by omega, by omega, fun p c hc => ?_⟩
    walk_at "g"
    refine sw_forN ?_
    walk_at "g"
    refine ⟨1, rfl, by decide, fun i δ' m2 => ∃ (c' : Cell) (x3 : Option D), δ' = [some (.scr ns), some (.int (j : Nat)), some (.adr p), x3] ∧ m2 = [(p, c')] ∧ Kit (4000 * i) c', ⟨c, _, rfl, rfl, hc⟩, ?_, ?_⟩
    · rintro i δ' m2 hi ⟨c', x3, rfl, rfl, kc⟩
      walk_at "g"
      refine sw_if ?_
      walk_at "g"
      refine ⟨rfl, p, c', 4000 * i, rfl, rfl, kc, by omega, fun c2 k2 => ?_⟩
      walk_at "g"
      rw [if_neg (by decide)]
      walk_at "g"
      exact ⟨c2, _, rfl, rfl, k2.up (by omega)⟩
    · rintro δ' m2 ⟨c', x3, rfl, rfl, kc⟩
      exact ⟨[], ⟨[(p, c')], .refl _⟩, _, _, _, rfl, rfl⟩
  · rintro δ' m' ⟨x1, x2, x3, rfl, rfl⟩
    walk_at "g"
    exact q _

end
end DL

set_option Elab.async false
set_option linter.all false
set_option maxRecDepth 100000
set_option maxHeartbeats 4000000
set_option autoImplicit false
namespace DL
open PySem PySem.Spec PyProof.Rows L2
theorem facts {K : PySem.W.Frag} {h : Heap} {mg : Str → Option Value} (X : K.In h) (G : h.Ns mainGlobals mg) {c_CutError : Addr} {c_InvalidName : Addr} {c_InvalidState : Addr} {c_Service : Addr} {c_UnknownCall : Addr} {f_CutError___init__ : Addr} {od0 an0 : Option Addr} {sl0 : Array (Option Value)} {oc0 kV0 dc0 pm0 cd0 ct0 : Value} {f_is_state : Addr} {od1 an1 : Option Addr} {sl1 : Array (Option Value)} {oc1 kV1 dc1 pm1 cd1 ct1 : Value} {f_Service_check : Addr} {od2 an2 : Option Addr} {sl2 : Array (Option Value)} {oc2 kV2 dc2 pm2 cd2 ct2 : Value} {f_Service_run : Addr} {od3 an3 : Option Addr} {sl3 : Array (Option Value)} {oc3 kV3 dc3 pm3 cd3 ct3 : Value} {f__law_ran : Addr} {od4 an4 : Option Addr} {sl4 : Array (Option Value)} {oc4 kV4 dc4 pm4 cd4 ct4 : Value} {f__law_toss : Addr} {od5 an5 : Option Addr} {sl5 : Array (Option Value)} {oc5 kV5 dc5 pm5 cd5 ct5 : Value} {f_Service___getitem__ : Addr} {od6 an6 : Option Addr} {sl6 : Array (Option Value)} {oc6 kV6 dc6 pm6 cd6 ct6 : Value} {f_Service___len__ : Addr} {od7 an7 : Option Addr} {sl7 : Array (Option Value)} {oc7 kV7 dc7 pm7 cd7 ct7 : Value} {f_Service_table : Addr} {od8 an8 : Option Addr} {sl8 : Array (Option Value)} {oc8 kV8 dc8 pm8 cd8 ct8 : Value} {f_Service_calls : Addr} {od9 an9 : Option Addr} {sl9 : Array (Option Value)} {oc9 kV9 dc9 pm9 cd9 ct9 : Value} {f__law_told_right : Addr} {od10 an10 : Option Addr} {sl10 : Array (Option Value)} {oc10 kV10 dc10 pm10 cd10 ct10 : Value} {f__law_walked : Addr} {od11 an11 : Option Addr} {sl11 : Array (Option Value)} {oc11 kV11 dc11 pm11 cd11 ct11 : Value} {f_reached : Addr} {od12 an12 : Option Addr} {sl12 : Array (Option Value)} {oc12 kV12 dc12 pm12 cd12 ct12 : Value} {f_check_table : Addr} {od13 an13 : Option Addr} {sl13 : Array (Option Value)} {oc13 kV13 dc13 pm13 cd13 ct13 : Value} {f_is_name : Addr} {od14 an14 : Option Addr} {sl14 : Array (Option Value)} {oc14 kV14 dc14 pm14 cd14 ct14 : Value} {f_check_name : Addr} {od15 an15 : Option Addr} {sl15 : Array (Option Value)} {oc15 kV15 dc15 pm15 cd15 ct15 : Value} {f_check_names : Addr} {od16 an16 : Option Addr} {sl16 : Array (Option Value)} {oc16 kV16 dc16 pm16 cd16 ct16 : Value} {f_Service___init__ : Addr} {od17 an17 : Option Addr} {sl17 : Array (Option Value)} {oc17 kV17 dc17 pm17 cd17 ct17 : Value} {f__law_turned : Addr} {od18 an18 : Option Addr} {sl18 : Array (Option Value)} {oc18 kV18 dc18 pm18 cd18 ct18 : Value} {f__law_answer : Addr} {od19 an19 : Option Addr} {sl19 : Array (Option Value)} {oc19 kV19 dc19 pm19 cd19 ct19 : Value} {f__law_column : Addr} {od20 an20 : Option Addr} {sl20 : Array (Option Value)} {oc20 kV20 dc20 pm20 cd20 ct20 : Value} {f__law_grid : Addr} {od21 an21 : Option Addr} {sl21 : Array (Option Value)} {oc21 kV21 dc21 pm21 cd21 ct21 : Value} {f__law_tags : Addr} {od22 an22 : Option Addr} {sl22 : Array (Option Value)} {oc22 kV22 dc22 pm22 cd22 ct22 : Value} {f__law_fits : Addr} {od23 an23 : Option Addr} {sl23 : Array (Option Value)} {oc23 kV23 dc23 pm23 cd23 ct23 : Value} {f__law_kit : Addr} {od24 an24 : Option Addr} {sl24 : Array (Option Value)} {oc24 kV24 dc24 pm24 cd24 ct24 : Value} {f_law : Addr} {od25 an25 : Option Addr} {sl25 : Array (Option Value)} {oc25 kV25 dc25 pm25 cd25 ct25 : Value} {nmCutError qqCutError : Str} {NNCutError : Addr} {bsCutError bmCutError subCutError : List Value} {snCutError : List Str} {abCutError : Bool} {colCutError : Option Bool} {ddCutError : Option Addr} {k0CutError k1CutError k2CutError k3CutError k5CutError : Option Value} {nmInvalidName qqInvalidName : Str} {NNInvalidName : Addr} {bsInvalidName bmInvalidName subInvalidName : List Value} {snInvalidName : List Str} {abInvalidName : Bool} {colInvalidName : Option Bool} {ddInvalidName : Option Addr} {k0InvalidName k1InvalidName k2InvalidName k3InvalidName k5InvalidName : Option Value} {nmInvalidState qqInvalidState : Str} {NNInvalidState : Addr} {bsInvalidState bmInvalidState subInvalidState : List Value} {snInvalidState : List Str} {abInvalidState : Bool} {colInvalidState : Option Bool} {ddInvalidState : Option Addr} {k0InvalidState k1InvalidState k2InvalidState k3InvalidState k5InvalidState : Option Value} {nmUnknownCall qqUnknownCall : Str} {NNUnknownCall : Addr} {bsUnknownCall bmUnknownCall subUnknownCall : List Value} {snUnknownCall : List Str} {abUnknownCall : Bool} {colUnknownCall : Option Bool} {ddUnknownCall : Option Addr} {k0UnknownCall k1UnknownCall k2UnknownCall k3UnknownCall k5UnknownCall : Option Value} {tv3_0 : Tok} {t3 : Addr} {ot3 : Value} {dt3 : Option Addr} {st3 : Array (Option Value)} {nt3 : Nat}  {q8 : Addr} {rs8 : List Value} {q9 : Addr} {rs9 : List Value} {tk_LETTERS : Tok} {tk_MOST_LETTERS : Tok}
    (ihn : PySem.W.specialIn K (.builtin "object.__class__") "__get__" = some (some (.builtin "getset_descriptor.__get__")))
    (itk : PySem.W.takesIn K (.builtin "object.__class__") = some true)
    (a_CutError : PySem.W.nsIn K mainGlobals "CutError" = some (some (.ref c_CutError)))
    (oe_CutError : K.lookup c_CutError = some (excClassObj nmCutError qqCutError c_CutError NNCutError bsCutError bmCutError true snCutError subCutError abCutError colCutError ddCutError k0CutError k1CutError k2CutError k3CutError k5CutError "ValueError.__new__"))
    (rv_CutError : PySem.HandSPX.refsVE bmCutError = true)
    (sa_CutError : PySem.W.findIn K (.ref c_CutError) "__setattr__" = some (some (.builtin "object.__setattr__")))
    (xb_CutError : PySem.W.subIn K (.ref c_CutError) (.type "BaseException") = some true)
    (ty_CutError : PySem.W.typeIn K (.ref c_CutError) = some (.type "type"))
    (kc_CutError : PySem.W.keepIn K (.ref c_CutError) = true)
    (ei_CutError : PySem.W.findIn K (.ref c_CutError) "__init__" = some (some (.ref f_CutError___init__)))
    (ev_CutError : PySem.W.findIn K (.ref c_CutError) "value" = some none)
    (et_CutError : PySem.W.typeIn K (.ref f_CutError___init__) = some (.type "function"))
    (ga_CutError : PySem.W.findIn K (.ref c_CutError) "__getattribute__" = some (some (.builtin "BaseException.__getattribute__")))
    (gg_CutError : PySem.W.findIn K (.ref c_CutError) "__getattr__" = some none)
    (hd_CutError : PySem.W.hasDictIn K c_CutError = true)
    (iha_CutError : PySem.W.findIn K (.ref c_CutError) "__class__" = some (some (.builtin "object.__class__")))
    (imr_CutError : PySem.W.mroIn K c_CutError (.type "object") = some true)
    (a_InvalidName : PySem.W.nsIn K mainGlobals "InvalidName" = some (some (.ref c_InvalidName)))
    (oe_InvalidName : K.lookup c_InvalidName = some (excClassObj nmInvalidName qqInvalidName c_InvalidName NNInvalidName bsInvalidName bmInvalidName true snInvalidName subInvalidName abInvalidName colInvalidName ddInvalidName k0InvalidName k1InvalidName k2InvalidName k3InvalidName k5InvalidName "ValueError.__new__"))
    (rv_InvalidName : PySem.HandSPX.refsVE bmInvalidName = true)
    (sa_InvalidName : PySem.W.findIn K (.ref c_InvalidName) "__setattr__" = some (some (.builtin "object.__setattr__")))
    (xb_InvalidName : PySem.W.subIn K (.ref c_InvalidName) (.type "BaseException") = some true)
    (ty_InvalidName : PySem.W.typeIn K (.ref c_InvalidName) = some (.type "type"))
    (kc_InvalidName : PySem.W.keepIn K (.ref c_InvalidName) = true)
    (ei_InvalidName : PySem.W.findIn K (.ref c_InvalidName) "__init__" = some (some (.ref f_CutError___init__)))
    (ev_InvalidName : PySem.W.findIn K (.ref c_InvalidName) "value" = some none)
    (et_InvalidName : PySem.W.typeIn K (.ref f_CutError___init__) = some (.type "function"))
    (ga_InvalidName : PySem.W.findIn K (.ref c_InvalidName) "__getattribute__" = some (some (.builtin "BaseException.__getattribute__")))
    (gg_InvalidName : PySem.W.findIn K (.ref c_InvalidName) "__getattr__" = some none)
    (hd_InvalidName : PySem.W.hasDictIn K c_InvalidName = true)
    (iha_InvalidName : PySem.W.findIn K (.ref c_InvalidName) "__class__" = some (some (.builtin "object.__class__")))
    (imr_InvalidName : PySem.W.mroIn K c_InvalidName (.type "object") = some true)
    (a_InvalidState : PySem.W.nsIn K mainGlobals "InvalidState" = some (some (.ref c_InvalidState)))
    (oe_InvalidState : K.lookup c_InvalidState = some (excClassObj nmInvalidState qqInvalidState c_InvalidState NNInvalidState bsInvalidState bmInvalidState true snInvalidState subInvalidState abInvalidState colInvalidState ddInvalidState k0InvalidState k1InvalidState k2InvalidState k3InvalidState k5InvalidState "ValueError.__new__"))
    (rv_InvalidState : PySem.HandSPX.refsVE bmInvalidState = true)
    (sa_InvalidState : PySem.W.findIn K (.ref c_InvalidState) "__setattr__" = some (some (.builtin "object.__setattr__")))
    (xb_InvalidState : PySem.W.subIn K (.ref c_InvalidState) (.type "BaseException") = some true)
    (ty_InvalidState : PySem.W.typeIn K (.ref c_InvalidState) = some (.type "type"))
    (kc_InvalidState : PySem.W.keepIn K (.ref c_InvalidState) = true)
    (ei_InvalidState : PySem.W.findIn K (.ref c_InvalidState) "__init__" = some (some (.ref f_CutError___init__)))
    (ev_InvalidState : PySem.W.findIn K (.ref c_InvalidState) "value" = some none)
    (et_InvalidState : PySem.W.typeIn K (.ref f_CutError___init__) = some (.type "function"))
    (ga_InvalidState : PySem.W.findIn K (.ref c_InvalidState) "__getattribute__" = some (some (.builtin "BaseException.__getattribute__")))
    (gg_InvalidState : PySem.W.findIn K (.ref c_InvalidState) "__getattr__" = some none)
    (hd_InvalidState : PySem.W.hasDictIn K c_InvalidState = true)
    (iha_InvalidState : PySem.W.findIn K (.ref c_InvalidState) "__class__" = some (some (.builtin "object.__class__")))
    (imr_InvalidState : PySem.W.mroIn K c_InvalidState (.type "object") = some true)
    (a_Service : PySem.W.nsIn K mainGlobals "Service" = some (some (.ref c_Service)))
    (pg_Service : PySem.W.plainGet K c_Service Str.empty = true)
    (hd_Service : PySem.W.hasDictIn K c_Service = true)
    (po_Service : PySem.W.plainOver K c_Service = true)
    (sa_Service : PySem.W.findIn K (.ref c_Service) "__setattr__" = some (some (.builtin "object.__setattr__")))
    (kc_Service : PySem.W.keepIn K (.ref c_Service) = true)
    (na_Service__names : PySem.W.findIn K (.ref c_Service) "_names" = some none)
    (na_Service__places : PySem.W.findIn K (.ref c_Service) "_places" = some none)
    (na_Service__rows : PySem.W.findIn K (.ref c_Service) "_rows" = some none)
    (na_Service_value : PySem.W.findIn K (.ref c_Service) "value" = some none)
    (a_UnknownCall : PySem.W.nsIn K mainGlobals "UnknownCall" = some (some (.ref c_UnknownCall)))
    (oe_UnknownCall : K.lookup c_UnknownCall = some (excClassObj nmUnknownCall qqUnknownCall c_UnknownCall NNUnknownCall bsUnknownCall bmUnknownCall true snUnknownCall subUnknownCall abUnknownCall colUnknownCall ddUnknownCall k0UnknownCall k1UnknownCall k2UnknownCall k3UnknownCall k5UnknownCall "ValueError.__new__"))
    (rv_UnknownCall : PySem.HandSPX.refsVE bmUnknownCall = true)
    (sa_UnknownCall : PySem.W.findIn K (.ref c_UnknownCall) "__setattr__" = some (some (.builtin "object.__setattr__")))
    (xb_UnknownCall : PySem.W.subIn K (.ref c_UnknownCall) (.type "BaseException") = some true)
    (ty_UnknownCall : PySem.W.typeIn K (.ref c_UnknownCall) = some (.type "type"))
    (kc_UnknownCall : PySem.W.keepIn K (.ref c_UnknownCall) = true)
    (ei_UnknownCall : PySem.W.findIn K (.ref c_UnknownCall) "__init__" = some (some (.ref f_CutError___init__)))
    (ev_UnknownCall : PySem.W.findIn K (.ref c_UnknownCall) "value" = some none)
    (et_UnknownCall : PySem.W.typeIn K (.ref f_CutError___init__) = some (.type "function"))
    (ga_UnknownCall : PySem.W.findIn K (.ref c_UnknownCall) "__getattribute__" = some (some (.builtin "BaseException.__getattribute__")))
    (gg_UnknownCall : PySem.W.findIn K (.ref c_UnknownCall) "__getattr__" = some none)
    (hd_UnknownCall : PySem.W.hasDictIn K c_UnknownCall = true)
    (iha_UnknownCall : PySem.W.findIn K (.ref c_UnknownCall) "__class__" = some (some (.builtin "object.__class__")))
    (imr_UnknownCall : PySem.W.mroIn K c_UnknownCall (.type "object") = some true)
    (su_CutError_CutError : PySem.W.subIn K (.ref c_CutError) (.ref c_CutError) = some true)
    (su_CutError_InvalidName : PySem.W.subIn K (.ref c_CutError) (.ref c_InvalidName) = some false)
    (su_CutError_InvalidState : PySem.W.subIn K (.ref c_CutError) (.ref c_InvalidState) = some false)
    (su_CutError_UnknownCall : PySem.W.subIn K (.ref c_CutError) (.ref c_UnknownCall) = some false)
    (su_InvalidName_CutError : PySem.W.subIn K (.ref c_InvalidName) (.ref c_CutError) = some true)
    (su_InvalidName_InvalidName : PySem.W.subIn K (.ref c_InvalidName) (.ref c_InvalidName) = some true)
    (su_InvalidName_InvalidState : PySem.W.subIn K (.ref c_InvalidName) (.ref c_InvalidState) = some false)
    (su_InvalidName_UnknownCall : PySem.W.subIn K (.ref c_InvalidName) (.ref c_UnknownCall) = some false)
    (su_InvalidState_CutError : PySem.W.subIn K (.ref c_InvalidState) (.ref c_CutError) = some true)
    (su_InvalidState_InvalidName : PySem.W.subIn K (.ref c_InvalidState) (.ref c_InvalidName) = some false)
    (su_InvalidState_InvalidState : PySem.W.subIn K (.ref c_InvalidState) (.ref c_InvalidState) = some true)
    (su_InvalidState_UnknownCall : PySem.W.subIn K (.ref c_InvalidState) (.ref c_UnknownCall) = some false)
    (su_UnknownCall_CutError : PySem.W.subIn K (.ref c_UnknownCall) (.ref c_CutError) = some true)
    (su_UnknownCall_InvalidName : PySem.W.subIn K (.ref c_UnknownCall) (.ref c_InvalidName) = some false)
    (su_UnknownCall_InvalidState : PySem.W.subIn K (.ref c_UnknownCall) (.ref c_InvalidState) = some false)
    (su_UnknownCall_UnknownCall : PySem.W.subIn K (.ref c_UnknownCall) (.ref c_UnknownCall) = some true)
    (a0 : PySem.W.findIn K (.ref c_CutError) "__init__" = some (some (.ref f_CutError___init__)))
    (i0 : PySem.W.isFn K (.ref f_CutError___init__) = true)
    (l0 : K.lookup f_CutError___init__ = some ⟨oc0, od0, .func (PySem.W.fnOf "__init__" "CutError.__init__" (defArgs s_CutError___init__) (defBody s_CutError___init__) (defScope s_CutError___init__) .none kV0 dc0 pm0 an0 cd0 ct0), sl0⟩)
    (c0 : PySem.W.codeIn K cd0 "CutError.__init__" = true)
    (k0 : PySem.W.keepIn K (.ref f_CutError___init__) = true)
    (a1 : PySem.W.nsIn K mainGlobals "is_state" = some (some (.ref f_is_state)))
    (l1 : K.lookup f_is_state = some ⟨oc1, od1, .func (PySem.W.fnOf "is_state" "is_state" (defArgs s_is_state) (defBody s_is_state) (defScope s_is_state) .none kV1 dc1 pm1 an1 cd1 ct1), sl1⟩)
    (c1 : PySem.W.codeIn K cd1 "is_state" = true)
    (k1 : PySem.W.keepIn K (.ref f_is_state) = true)
    (a2 : PySem.W.findIn K (.ref c_Service) "check" = some (some (.ref f_Service_check)))
    (i2 : PySem.W.isFn K (.ref f_Service_check) = true)
    (l2 : K.lookup f_Service_check = some ⟨oc2, od2, .func (PySem.W.fnOf "check" "Service.check" (defArgs s_Service_check) (defBody s_Service_check) (defScope s_Service_check) .none kV2 dc2 pm2 an2 cd2 ct2), sl2⟩)
    (c2 : PySem.W.codeIn K cd2 "Service.check" = true)
    (k2 : PySem.W.keepIn K (.ref f_Service_check) = true)
    (a3 : PySem.W.findIn K (.ref c_Service) "run" = some (some (.ref f_Service_run)))
    (i3 : PySem.W.isFn K (.ref f_Service_run) = true)
    (l3 : K.lookup f_Service_run = some ⟨oc3, od3, .func (PySem.W.fnOf "run" "Service.run" (defArgs s_Service_run) (defBody s_Service_run) (defScope s_Service_run) (.ref t3) kV3 dc3 pm3 an3 cd3 ct3), sl3⟩)
    (c3 : PySem.W.codeIn K cd3 "Service.run" = true)
    (k3 : PySem.W.keepIn K (.ref f_Service_run) = true)
    (lt3 : K.lookup t3 = some ⟨ot3, dt3, .seq #[(.int 0 tv3_0)] nt3, st3⟩)
    (a4 : PySem.W.nsIn K mainGlobals "_law_ran" = some (some (.ref f__law_ran)))
    (l4 : K.lookup f__law_ran = some ⟨oc4, od4, .func (PySem.W.fnOf "_law_ran" "_law_ran" (defArgs s__law_ran) (defBody s__law_ran) (defScope s__law_ran) .none kV4 dc4 pm4 an4 cd4 ct4), sl4⟩)
    (c4 : PySem.W.codeIn K cd4 "_law_ran" = true)
    (k4 : PySem.W.keepIn K (.ref f__law_ran) = true)
    (a5 : PySem.W.nsIn K mainGlobals "_law_toss" = some (some (.ref f__law_toss)))
    (l5 : K.lookup f__law_toss = some ⟨oc5, od5, .func (PySem.W.fnOf "_law_toss" "_law_toss" (defArgs s__law_toss) (defBody s__law_toss) (defScope s__law_toss) .none kV5 dc5 pm5 an5 cd5 ct5), sl5⟩)
    (c5 : PySem.W.codeIn K cd5 "_law_toss" = true)
    (k5 : PySem.W.keepIn K (.ref f__law_toss) = true)
    (a6 : PySem.W.findIn K (.ref c_Service) "__getitem__" = some (some (.ref f_Service___getitem__)))
    (i6 : PySem.W.isFn K (.ref f_Service___getitem__) = true)
    (fn6 : PySem.W.fnIn K f_Service___getitem__ = true)
    (l6 : K.lookup f_Service___getitem__ = some ⟨oc6, od6, .func (PySem.W.fnOf "__getitem__" "Service.__getitem__" (defArgs s_Service___getitem__) (defBody s_Service___getitem__) (defScope s_Service___getitem__) .none kV6 dc6 pm6 an6 cd6 ct6), sl6⟩)
    (c6 : PySem.W.codeIn K cd6 "Service.__getitem__" = true)
    (k6 : PySem.W.keepIn K (.ref f_Service___getitem__) = true)
    (a7 : PySem.W.findIn K (.ref c_Service) "__len__" = some (some (.ref f_Service___len__)))
    (i7 : PySem.W.isFn K (.ref f_Service___len__) = true)
    (l7 : K.lookup f_Service___len__ = some ⟨oc7, od7, .func (PySem.W.fnOf "__len__" "Service.__len__" (defArgs s_Service___len__) (defBody s_Service___len__) (defScope s_Service___len__) .none kV7 dc7 pm7 an7 cd7 ct7), sl7⟩)
    (c7 : PySem.W.codeIn K cd7 "Service.__len__" = true)
    (k7 : PySem.W.keepIn K (.ref f_Service___len__) = true)
    (a8 : PySem.W.findIn K (.ref c_Service) "table" = some (some (.ref q8)))
    (pr8 : PySem.W.recIn K q8 "property" = some (.ref f_Service_table :: rs8))
    (pt8 : PySem.W.specialIn K (.ref q8) "__get__" = some (some (.builtin "property.__get__")))
    (px8 : PySem.W.takesIn K (.ref q8) = some true)
    (l8 : K.lookup f_Service_table = some ⟨oc8, od8, .func (PySem.W.fnOf "table" "Service.table" (defArgs s_Service_table) (defBody s_Service_table) (defScope s_Service_table) .none kV8 dc8 pm8 an8 cd8 ct8), sl8⟩)
    (c8 : PySem.W.codeIn K cd8 "Service.table" = true)
    (k8 : PySem.W.keepIn K (.ref f_Service_table) = true)
    (a9 : PySem.W.findIn K (.ref c_Service) "calls" = some (some (.ref q9)))
    (pr9 : PySem.W.recIn K q9 "property" = some (.ref f_Service_calls :: rs9))
    (pt9 : PySem.W.specialIn K (.ref q9) "__get__" = some (some (.builtin "property.__get__")))
    (px9 : PySem.W.takesIn K (.ref q9) = some true)
    (l9 : K.lookup f_Service_calls = some ⟨oc9, od9, .func (PySem.W.fnOf "calls" "Service.calls" (defArgs s_Service_calls) (defBody s_Service_calls) (defScope s_Service_calls) .none kV9 dc9 pm9 an9 cd9 ct9), sl9⟩)
    (c9 : PySem.W.codeIn K cd9 "Service.calls" = true)
    (k9 : PySem.W.keepIn K (.ref f_Service_calls) = true)
    (a10 : PySem.W.nsIn K mainGlobals "_law_told_right" = some (some (.ref f__law_told_right)))
    (l10 : K.lookup f__law_told_right = some ⟨oc10, od10, .func (PySem.W.fnOf "_law_told_right" "_law_told_right" (defArgs s__law_told_right) (defBody s__law_told_right) (defScope s__law_told_right) .none kV10 dc10 pm10 an10 cd10 ct10), sl10⟩)
    (c10 : PySem.W.codeIn K cd10 "_law_told_right" = true)
    (k10 : PySem.W.keepIn K (.ref f__law_told_right) = true)
    (a11 : PySem.W.nsIn K mainGlobals "_law_walked" = some (some (.ref f__law_walked)))
    (l11 : K.lookup f__law_walked = some ⟨oc11, od11, .func (PySem.W.fnOf "_law_walked" "_law_walked" (defArgs s__law_walked) (defBody s__law_walked) (defScope s__law_walked) .none kV11 dc11 pm11 an11 cd11 ct11), sl11⟩)
    (c11 : PySem.W.codeIn K cd11 "_law_walked" = true)
    (k11 : PySem.W.keepIn K (.ref f__law_walked) = true)
    (a12 : PySem.W.nsIn K mainGlobals "reached" = some (some (.ref f_reached)))
    (l12 : K.lookup f_reached = some ⟨oc12, od12, .func (PySem.W.fnOf "reached" "reached" (defArgs s_reached) (defBody s_reached) (defScope s_reached) .none kV12 dc12 pm12 an12 cd12 ct12), sl12⟩)
    (c12 : PySem.W.codeIn K cd12 "reached" = true)
    (k12 : PySem.W.keepIn K (.ref f_reached) = true)
    (a13 : PySem.W.nsIn K mainGlobals "check_table" = some (some (.ref f_check_table)))
    (l13 : K.lookup f_check_table = some ⟨oc13, od13, .func (PySem.W.fnOf "check_table" "check_table" (defArgs s_check_table) (defBody s_check_table) (defScope s_check_table) .none kV13 dc13 pm13 an13 cd13 ct13), sl13⟩)
    (c13 : PySem.W.codeIn K cd13 "check_table" = true)
    (k13 : PySem.W.keepIn K (.ref f_check_table) = true)
    (a14 : PySem.W.nsIn K mainGlobals "is_name" = some (some (.ref f_is_name)))
    (l14 : K.lookup f_is_name = some ⟨oc14, od14, .func (PySem.W.fnOf "is_name" "is_name" (defArgs s_is_name) (defBody s_is_name) (defScope s_is_name) .none kV14 dc14 pm14 an14 cd14 ct14), sl14⟩)
    (c14 : PySem.W.codeIn K cd14 "is_name" = true)
    (k14 : PySem.W.keepIn K (.ref f_is_name) = true)
    (a15 : PySem.W.nsIn K mainGlobals "check_name" = some (some (.ref f_check_name)))
    (l15 : K.lookup f_check_name = some ⟨oc15, od15, .func (PySem.W.fnOf "check_name" "check_name" (defArgs s_check_name) (defBody s_check_name) (defScope s_check_name) .none kV15 dc15 pm15 an15 cd15 ct15), sl15⟩)
    (c15 : PySem.W.codeIn K cd15 "check_name" = true)
    (k15 : PySem.W.keepIn K (.ref f_check_name) = true)
    (a16 : PySem.W.nsIn K mainGlobals "check_names" = some (some (.ref f_check_names)))
    (l16 : K.lookup f_check_names = some ⟨oc16, od16, .func (PySem.W.fnOf "check_names" "check_names" (defArgs s_check_names) (defBody s_check_names) (defScope s_check_names) .none kV16 dc16 pm16 an16 cd16 ct16), sl16⟩)
    (c16 : PySem.W.codeIn K cd16 "check_names" = true)
    (k16 : PySem.W.keepIn K (.ref f_check_names) = true)
    (a17 : PySem.W.findIn K (.ref c_Service) "__init__" = some (some (.ref f_Service___init__)))
    (i17 : PySem.W.isFn K (.ref f_Service___init__) = true)
    (mk_Service : PySem.W.makesIn K c_Service = true)
    (l17 : K.lookup f_Service___init__ = some ⟨oc17, od17, .func (PySem.W.fnOf "__init__" "Service.__init__" (defArgs s_Service___init__) (defBody s_Service___init__) (defScope s_Service___init__) .none kV17 dc17 pm17 an17 cd17 ct17), sl17⟩)
    (c17 : PySem.W.codeIn K cd17 "Service.__init__" = true)
    (k17 : PySem.W.keepIn K (.ref f_Service___init__) = true)
    (a18 : PySem.W.nsIn K mainGlobals "_law_turned" = some (some (.ref f__law_turned)))
    (l18 : K.lookup f__law_turned = some ⟨oc18, od18, .func (PySem.W.fnOf "_law_turned" "_law_turned" (defArgs s__law_turned) (defBody s__law_turned) (defScope s__law_turned) .none kV18 dc18 pm18 an18 cd18 ct18), sl18⟩)
    (c18 : PySem.W.codeIn K cd18 "_law_turned" = true)
    (k18 : PySem.W.keepIn K (.ref f__law_turned) = true)
    (a19 : PySem.W.nsIn K mainGlobals "_law_answer" = some (some (.ref f__law_answer)))
    (l19 : K.lookup f__law_answer = some ⟨oc19, od19, .func (PySem.W.fnOf "_law_answer" "_law_answer" (defArgs s__law_answer) (defBody s__law_answer) (defScope s__law_answer) .none kV19 dc19 pm19 an19 cd19 ct19), sl19⟩)
    (c19 : PySem.W.codeIn K cd19 "_law_answer" = true)
    (k19 : PySem.W.keepIn K (.ref f__law_answer) = true)
    (a20 : PySem.W.nsIn K mainGlobals "_law_column" = some (some (.ref f__law_column)))
    (l20 : K.lookup f__law_column = some ⟨oc20, od20, .func (PySem.W.fnOf "_law_column" "_law_column" (defArgs s__law_column) (defBody s__law_column) (defScope s__law_column) .none kV20 dc20 pm20 an20 cd20 ct20), sl20⟩)
    (c20 : PySem.W.codeIn K cd20 "_law_column" = true)
    (k20 : PySem.W.keepIn K (.ref f__law_column) = true)
    (a21 : PySem.W.nsIn K mainGlobals "_law_grid" = some (some (.ref f__law_grid)))
    (l21 : K.lookup f__law_grid = some ⟨oc21, od21, .func (PySem.W.fnOf "_law_grid" "_law_grid" (defArgs s__law_grid) (defBody s__law_grid) (defScope s__law_grid) .none kV21 dc21 pm21 an21 cd21 ct21), sl21⟩)
    (c21 : PySem.W.codeIn K cd21 "_law_grid" = true)
    (k21 : PySem.W.keepIn K (.ref f__law_grid) = true)
    (a22 : PySem.W.nsIn K mainGlobals "_law_tags" = some (some (.ref f__law_tags)))
    (l22 : K.lookup f__law_tags = some ⟨oc22, od22, .func (PySem.W.fnOf "_law_tags" "_law_tags" (defArgs s__law_tags) (defBody s__law_tags) (defScope s__law_tags) .none kV22 dc22 pm22 an22 cd22 ct22), sl22⟩)
    (c22 : PySem.W.codeIn K cd22 "_law_tags" = true)
    (k22 : PySem.W.keepIn K (.ref f__law_tags) = true)
    (a23 : PySem.W.nsIn K mainGlobals "_law_fits" = some (some (.ref f__law_fits)))
    (l23 : K.lookup f__law_fits = some ⟨oc23, od23, .func (PySem.W.fnOf "_law_fits" "_law_fits" (defArgs s__law_fits) (defBody s__law_fits) (defScope s__law_fits) .none kV23 dc23 pm23 an23 cd23 ct23), sl23⟩)
    (c23 : PySem.W.codeIn K cd23 "_law_fits" = true)
    (k23 : PySem.W.keepIn K (.ref f__law_fits) = true)
    (a24 : PySem.W.nsIn K mainGlobals "_law_kit" = some (some (.ref f__law_kit)))
    (l24 : K.lookup f__law_kit = some ⟨oc24, od24, .func (PySem.W.fnOf "_law_kit" "_law_kit" (defArgs s__law_kit) (defBody s__law_kit) (defScope s__law_kit) .none kV24 dc24 pm24 an24 cd24 ct24), sl24⟩)
    (c24 : PySem.W.codeIn K cd24 "_law_kit" = true)
    (k24 : PySem.W.keepIn K (.ref f__law_kit) = true)
    (a25 : PySem.W.nsIn K mainGlobals "law" = some (some (.ref f_law)))
    (l25 : K.lookup f_law = some ⟨oc25, od25, .func (PySem.W.fnOf "law" "law" (defArgs s_law) (defBody s_law) (defScope s_law) .none kV25 dc25 pm25 an25 cd25 ct25), sl25⟩)
    (c25 : PySem.W.codeIn K cd25 "law" = true)
    (k25 : PySem.W.keepIn K (.ref f_law) = true)
    (z_abs : PySem.W.nsIn K mainGlobals "abs" = some none)
    (z_all : PySem.W.nsIn K mainGlobals "all" = some none)
    (z_bool : PySem.W.nsIn K mainGlobals "bool" = some none)
    (z_enumerate : PySem.W.nsIn K mainGlobals "enumerate" = some none)
    (z_int : PySem.W.nsIn K mainGlobals "int" = some none)
    (z_isinstance : PySem.W.nsIn K mainGlobals "isinstance" = some none)
    (z_len : PySem.W.nsIn K mainGlobals "len" = some none)
    (z_list : PySem.W.nsIn K mainGlobals "list" = some none)
    (z_max : PySem.W.nsIn K mainGlobals "max" = some none)
    (z_min : PySem.W.nsIn K mainGlobals "min" = some none)
    (z_range : PySem.W.nsIn K mainGlobals "range" = some none)
    (z_repr : PySem.W.nsIn K mainGlobals "repr" = some none)
    (z_set : PySem.W.nsIn K mainGlobals "set" = some none)
    (z_str : PySem.W.nsIn K mainGlobals "str" = some none)
    (w_LETTERS : PySem.W.nsIn K mainGlobals "LETTERS" = some (some (.str "abcdefghijklmnopqrstuvwxyz" tk_LETTERS)))
    (w_MOST_LETTERS : PySem.W.nsIn K mainGlobals "MOST_LETTERS" = some (some (.int 8 tk_MOST_LETTERS)))
    : Txt K mg { c_CutError := c_CutError, c_InvalidName := c_InvalidName, c_InvalidState := c_InvalidState, c_Service := c_Service, c_UnknownCall := c_UnknownCall, f_CutError___init__ := f_CutError___init__, f_is_state := f_is_state, f_Service_check := f_Service_check, f_Service_run := f_Service_run, f__law_ran := f__law_ran, f__law_toss := f__law_toss, f_Service___getitem__ := f_Service___getitem__, f_Service___len__ := f_Service___len__, f_Service_table := f_Service_table, f_Service_calls := f_Service_calls, f__law_told_right := f__law_told_right, f__law_walked := f__law_walked, f_reached := f_reached, f_check_table := f_check_table, f_is_name := f_is_name, f_check_name := f_check_name, f_check_names := f_check_names, f_Service___init__ := f_Service___init__, f__law_turned := f__law_turned, f__law_answer := f__law_answer, f__law_column := f__law_column, f__law_grid := f__law_grid, f__law_tags := f__law_tags, f__law_fits := f__law_fits, f__law_kit := f__law_kit, f_law := f_law } := {
  n_abs := PySem.W.mg_none_of X G z_abs
  n_all := PySem.W.mg_none_of X G z_all
  n_bool := PySem.W.mg_none_of X G z_bool
  n_enumerate := PySem.W.mg_none_of X G z_enumerate
  n_int := PySem.W.mg_none_of X G z_int
  n_isinstance := PySem.W.mg_none_of X G z_isinstance
  n_len := PySem.W.mg_none_of X G z_len
  n_list := PySem.W.mg_none_of X G z_list
  n_max := PySem.W.mg_none_of X G z_max
  n_min := PySem.W.mg_none_of X G z_min
  n_range := PySem.W.mg_none_of X G z_range
  n_repr := PySem.W.mg_none_of X G z_repr
  n_set := PySem.W.mg_none_of X G z_set
  n_str := PySem.W.mg_none_of X G z_str
  g_LETTERS := ⟨_, PySem.W.mg_of X G w_LETTERS, _, rfl⟩
  g_MOST_LETTERS := ⟨_, PySem.W.mg_of X G w_MOST_LETTERS, _, rfl⟩
  g_CutError := PySem.W.mg_of X G a_CutError
  g_InvalidName := PySem.W.mg_of X G a_InvalidName
  g_InvalidState := PySem.W.mg_of X G a_InvalidState
  g_Service := PySem.W.mg_of X G a_Service
  cl_Service := ⟨pg_Service, hd_Service, po_Service, sa_Service⟩
  na_Service__names := na_Service__names
  na_Service__places := na_Service__places
  na_Service__rows := na_Service__rows
  na_Service_value := na_Service_value
  g_UnknownCall := PySem.W.mg_of X G a_UnknownCall
  er_CutError := ⟨⟨⟨_, _, _, _, _, _, _, _, _, _, _, _, _, _, _, oe_CutError, rv_CutError⟩, sa_CutError, xb_CutError, ty_CutError, kc_CutError⟩, ei_CutError, ev_CutError, et_CutError⟩
  xf_CutError := ⟨ga_CutError, gg_CutError, xb_CutError, hd_CutError⟩
  xc_CutError := ⟨ga_CutError, gg_CutError, xb_CutError, hd_CutError, iha_CutError, ihn, itk, imr_CutError⟩
  su_CutError_CutError := su_CutError_CutError
  su_CutError_InvalidName := su_CutError_InvalidName
  su_CutError_InvalidState := su_CutError_InvalidState
  su_CutError_UnknownCall := su_CutError_UnknownCall
  er_InvalidName := ⟨⟨⟨_, _, _, _, _, _, _, _, _, _, _, _, _, _, _, oe_InvalidName, rv_InvalidName⟩, sa_InvalidName, xb_InvalidName, ty_InvalidName, kc_InvalidName⟩, ei_InvalidName, ev_InvalidName, et_InvalidName⟩
  xf_InvalidName := ⟨ga_InvalidName, gg_InvalidName, xb_InvalidName, hd_InvalidName⟩
  xc_InvalidName := ⟨ga_InvalidName, gg_InvalidName, xb_InvalidName, hd_InvalidName, iha_InvalidName, ihn, itk, imr_InvalidName⟩
  su_InvalidName_CutError := su_InvalidName_CutError
  su_InvalidName_InvalidName := su_InvalidName_InvalidName
  su_InvalidName_InvalidState := su_InvalidName_InvalidState
  su_InvalidName_UnknownCall := su_InvalidName_UnknownCall
  er_InvalidState := ⟨⟨⟨_, _, _, _, _, _, _, _, _, _, _, _, _, _, _, oe_InvalidState, rv_InvalidState⟩, sa_InvalidState, xb_InvalidState, ty_InvalidState, kc_InvalidState⟩, ei_InvalidState, ev_InvalidState, et_InvalidState⟩
  xf_InvalidState := ⟨ga_InvalidState, gg_InvalidState, xb_InvalidState, hd_InvalidState⟩
  xc_InvalidState := ⟨ga_InvalidState, gg_InvalidState, xb_InvalidState, hd_InvalidState, iha_InvalidState, ihn, itk, imr_InvalidState⟩
  su_InvalidState_CutError := su_InvalidState_CutError
  su_InvalidState_InvalidName := su_InvalidState_InvalidName
  su_InvalidState_InvalidState := su_InvalidState_InvalidState
  su_InvalidState_UnknownCall := su_InvalidState_UnknownCall
  er_UnknownCall := ⟨⟨⟨_, _, _, _, _, _, _, _, _, _, _, _, _, _, _, oe_UnknownCall, rv_UnknownCall⟩, sa_UnknownCall, xb_UnknownCall, ty_UnknownCall, kc_UnknownCall⟩, ei_UnknownCall, ev_UnknownCall, et_UnknownCall⟩
  xf_UnknownCall := ⟨ga_UnknownCall, gg_UnknownCall, xb_UnknownCall, hd_UnknownCall⟩
  xc_UnknownCall := ⟨ga_UnknownCall, gg_UnknownCall, xb_UnknownCall, hd_UnknownCall, iha_UnknownCall, ihn, itk, imr_UnknownCall⟩
  su_UnknownCall_CutError := su_UnknownCall_CutError
  su_UnknownCall_InvalidName := su_UnknownCall_InvalidName
  su_UnknownCall_InvalidState := su_UnknownCall_InvalidState
  su_UnknownCall_UnknownCall := su_UnknownCall_UnknownCall
  h_CutError___init__ := has_mk l0 c0 fun _ _ _ _ _ _ us hl => match us, hl with | [_, _], _ => rfl
  h_is_state := has_mk l1 c1 fun _ _ _ _ _ _ us hl => match us, hl with | [_, _], _ => rfl
  g_is_state := PySem.W.mg_of X G a1
  k_is_state := k1
  h_Service_check := has_mk l2 c2 fun _ _ _ _ _ _ us hl => match us, hl with | [_, _, _], _ => rfl
  m_Service_check := ⟨a2, i2, k2⟩
  h_Service_run := has_mkD l3 c3 lt3 fun _ _ _ _ _ _ us hl => match us, hl with | [_, _, _], _ => ⟨_, rfl, rfl⟩
  m_Service_run := ⟨a3, i3, k3⟩
  h__law_ran := has_mk l4 c4 fun _ _ _ _ _ _ us hl => match us, hl with | [_, _, _, _], _ => rfl
  g__law_ran := PySem.W.mg_of X G a4
  k__law_ran := k4
  h__law_toss := has_mk l5 c5 fun _ _ _ _ _ _ us hl => match us, hl with | [_, _], _ => rfl
  g__law_toss := PySem.W.mg_of X G a5
  k__law_toss := k5
  h_Service___getitem__ := has_mk l6 c6 fun _ _ _ _ _ _ us hl => match us, hl with | [_, _], _ => rfl
  gi_Service := ⟨a6, i6, fn6⟩
  h_Service___len__ := has_mk l7 c7 fun _ _ _ _ _ _ us hl => match us, hl with | [_], _ => rfl
  len_Service := ⟨a7, i7⟩
  h_Service_table := has_mk l8 c8 fun _ _ _ _ _ _ us hl => match us, hl with | [_], _ => rfl
  p_Service_table := ⟨q8, a8, pt8, px8, _, pr8⟩
  h_Service_calls := has_mk l9 c9 fun _ _ _ _ _ _ us hl => match us, hl with | [_], _ => rfl
  p_Service_calls := ⟨q9, a9, pt9, px9, _, pr9⟩
  h__law_told_right := has_mk l10 c10 fun _ _ _ _ _ _ us hl => match us, hl with | [_, _, _], _ => rfl
  g__law_told_right := PySem.W.mg_of X G a10
  k__law_told_right := k10
  h__law_walked := has_mk l11 c11 fun _ _ _ _ _ _ us hl => match us, hl with | [_], _ => rfl
  g__law_walked := PySem.W.mg_of X G a11
  k__law_walked := k11
  h_reached := has_mk l12 c12 fun _ _ _ _ _ _ us hl => match us, hl with | [_], _ => rfl
  g_reached := PySem.W.mg_of X G a12
  k_reached := k12
  h_check_table := has_mk l13 c13 fun _ _ _ _ _ _ us hl => match us, hl with | [_, _], _ => rfl
  g_check_table := PySem.W.mg_of X G a13
  k_check_table := k13
  h_is_name := has_mk l14 c14 fun _ _ _ _ _ _ us hl => match us, hl with | [_], _ => rfl
  g_is_name := PySem.W.mg_of X G a14
  k_is_name := k14
  h_check_name := has_mk l15 c15 fun _ _ _ _ _ _ us hl => match us, hl with | [_], _ => rfl
  g_check_name := PySem.W.mg_of X G a15
  k_check_name := k15
  h_check_names := has_mk l16 c16 fun _ _ _ _ _ _ us hl => match us, hl with | [_], _ => rfl
  g_check_names := PySem.W.mg_of X G a16
  k_check_names := k16
  h_Service___init__ := has_mk l17 c17 fun _ _ _ _ _ _ us hl => match us, hl with | [_, _, _], _ => rfl
  mk_Service := ⟨mk_Service, a17, i17, kc_Service⟩
  h__law_turned := has_mk l18 c18 fun _ _ _ _ _ _ us hl => match us, hl with | [_, _], _ => rfl
  g__law_turned := PySem.W.mg_of X G a18
  k__law_turned := k18
  h__law_answer := has_mk l19 c19 fun _ _ _ _ _ _ us hl => match us, hl with | [_], _ => rfl
  g__law_answer := PySem.W.mg_of X G a19
  k__law_answer := k19
  h__law_column := has_mk l20 c20 fun _ _ _ _ _ _ us hl => match us, hl with | [_, _], _ => rfl
  g__law_column := PySem.W.mg_of X G a20
  k__law_column := k20
  h__law_grid := has_mk l21 c21 fun _ _ _ _ _ _ us hl => match us, hl with | [_, _, _], _ => rfl
  g__law_grid := PySem.W.mg_of X G a21
  k__law_grid := k21
  h__law_tags := has_mk l22 c22 fun _ _ _ _ _ _ us hl => match us, hl with | [_, _], _ => rfl
  g__law_tags := PySem.W.mg_of X G a22
  k__law_tags := k22
  h__law_fits := has_mk l23 c23 fun _ _ _ _ _ _ us hl => match us, hl with | [_], _ => rfl
  g__law_fits := PySem.W.mg_of X G a23
  k__law_fits := k23
  h__law_kit := has_mk l24 c24 fun _ _ _ _ _ _ us hl => match us, hl with | [_, _], _ => rfl
  g__law_kit := PySem.W.mg_of X G a24
  k__law_kit := k24
  h_law := has_mk l25 c25 fun _ _ _ _ _ _ us hl => match us, hl with | [_], _ => rfl
  g_law := PySem.W.mg_of X G a25
  k_law := k25
  kb_Service___init___1_table_names := (kbs_mk l17 fun _ _ _ _ _ _ us ws h1 h2 => match us, ws, h1, h2 with | [_], [_, _], _, _ => rfl)
  kb_Service_check_3 := (kbs_mk l2 fun _ _ _ _ _ _ us ws h1 h2 => match us, ws, h1, h2 with | [_, _, _], [], _, _ => rfl)
  b_law := law_mk l25 fun _ => rfl
}
theorem whole {l : PySem.W.OpenLaw} {w : World} {K : PySem.W.Frag} {h : Heap} {mg : Str → Option Value} {fa : Addr} {a : Ads} (X : K.In h) (G : h.Ns mainGlobals mg) (hfa : mg "law" = some (.ref fa)) (T : Txt K mg a) :
    ∃ fd : FuncData, (∀ (s : Shared) (v : Value), BindsTo s fd ⟨[v], []⟩ [("script", v)]) ∧ ∀ base : Heap, K.In base → base.Ns mainGlobals mg → FnG l.prog w K mg base 9 fa fd ["script"] (spOf K (FSn 1 (F_law))) := by
  have e := hfa.symm.trans T.g_law
  cases e
  obtain ⟨fd, F, _⟩ := T.h_law
  refine ⟨fd, T.b_law fd (Fnc.fdAt F), fun base _ _ => ?_⟩
  obtain ⟨fd2, F2, _, e2⟩ := ok_law (P := l.prog) (w := w) (base := base) T
  rw [fdAt_inj (Fnc.fdAt F) e2]
  first | exact F2 | exact FnG.of F2
end DL
open PySem PySem.W PyProof.Rows in
set_option maxRecDepth 100000 in
set_option maxHeartbeats 0 in
theorem PySem.Challenge.cw_anycut_k02_services_as_constructed_holds : PySem.Challenge.rw_anycut_k02_services_as_constructed.Holds := by
  w_on; o_law; k_head; (case hw => w_witness2)
  k_fill
  refine DL.walk_at_law (l := PySem.Challenge.rw_anycut_k02_services_as_constructed) (k := 9) (Pf := DL.FSn 1 (DL.F_law)) (x := "script") rfl (by decide) rfl ⟨rfl, by decide, by decide⟩ (fun w h Y => by first | exact PySem.W.kIn_of Y | exact PySem.W.km_in_of Y) ?F (fun ns _ _ => by first | exact ⟨rfl, ns, rfl, fun _ => rfl⟩ | exact ⟨rfl, ns, rfl, rfl, fun _ => rfl⟩)
  case F =>
    intro w mg fa h KX G hmg
    refine DL.whole KX G hmg (a := { c_CutError := ?_, c_InvalidName := ?_, c_InvalidState := ?_, c_Service := ?_, c_UnknownCall := ?_, f_CutError___init__ := ?_, f_is_state := ?_, f_Service_check := ?_, f_Service_run := ?_, f__law_ran := ?_, f__law_toss := ?_, f_Service___getitem__ := ?_, f_Service___len__ := ?_, f_Service_table := ?_, f_Service_calls := ?_, f__law_told_right := ?_, f__law_walked := ?_, f_reached := ?_, f_check_table := ?_, f_is_name := ?_, f_check_name := ?_, f_check_names := ?_, f_Service___init__ := ?_, f__law_turned := ?_, f__law_answer := ?_, f__law_column := ?_, f__law_grid := ?_, f__law_tags := ?_, f__law_fits := ?_, f__law_kit := ?_, f_law := ?_ }) ?T
    case T =>
      refine' DL.facts KX G ?x_ihn ?x_itk ?x_a_CutError ?x_oe_CutError ?x_rv_CutError ?x_sa_CutError ?x_xb_CutError ?x_ty_CutError ?x_kc_CutError ?x_ei_CutError ?x_ev_CutError ?x_et_CutError ?x_ga_CutError ?x_gg_CutError ?x_hd_CutError ?x_iha_CutError ?x_imr_CutError ?x_a_InvalidName ?x_oe_InvalidName ?x_rv_InvalidName ?x_sa_InvalidName ?x_xb_InvalidName ?x_ty_InvalidName ?x_kc_InvalidName ?x_ei_InvalidName ?x_ev_InvalidName ?x_et_InvalidName ?x_ga_InvalidName ?x_gg_InvalidName ?x_hd_InvalidName ?x_iha_InvalidName ?x_imr_InvalidName ?x_a_InvalidState ?x_oe_InvalidState ?x_rv_InvalidState ?x_sa_InvalidState ?x_xb_InvalidState ?x_ty_InvalidState ?x_kc_InvalidState ?x_ei_InvalidState ?x_ev_InvalidState ?x_et_InvalidState ?x_ga_InvalidState ?x_gg_InvalidState ?x_hd_InvalidState ?x_iha_InvalidState ?x_imr_InvalidState ?x_a_Service ?x_pg_Service ?x_hd_Service ?x_po_Service ?x_sa_Service ?x_kc_Service ?x_na_Service__names ?x_na_Service__places ?x_na_Service__rows ?x_na_Service_value ?x_a_UnknownCall ?x_oe_UnknownCall ?x_rv_UnknownCall ?x_sa_UnknownCall ?x_xb_UnknownCall ?x_ty_UnknownCall ?x_kc_UnknownCall ?x_ei_UnknownCall ?x_ev_UnknownCall ?x_et_UnknownCall ?x_ga_UnknownCall ?x_gg_UnknownCall ?x_hd_UnknownCall ?x_iha_UnknownCall ?x_imr_UnknownCall ?x_su_CutError_CutError ?x_su_CutError_InvalidName ?x_su_CutError_InvalidState ?x_su_CutError_UnknownCall ?x_su_InvalidName_CutError ?x_su_InvalidName_InvalidName ?x_su_InvalidName_InvalidState ?x_su_InvalidName_UnknownCall ?x_su_InvalidState_CutError ?x_su_InvalidState_InvalidName ?x_su_InvalidState_InvalidState ?x_su_InvalidState_UnknownCall ?x_su_UnknownCall_CutError ?x_su_UnknownCall_InvalidName ?x_su_UnknownCall_InvalidState ?x_su_UnknownCall_UnknownCall ?x_a0 ?x_i0 ?x_l0 ?x_c0 ?x_k0 ?x_a1 ?x_l1 ?x_c1 ?x_k1 ?x_a2 ?x_i2 ?x_l2 ?x_c2 ?x_k2 ?x_a3 ?x_i3 ?x_l3 ?x_c3 ?x_k3 ?x_lt3 ?x_a4 ?x_l4 ?x_c4 ?x_k4 ?x_a5 ?x_l5 ?x_c5 ?x_k5 ?x_a6 ?x_i6 ?x_fn6 ?x_l6 ?x_c6 ?x_k6 ?x_a7 ?x_i7 ?x_l7 ?x_c7 ?x_k7 ?x_a8 ?x_pr8 ?x_pt8 ?x_px8 ?x_l8 ?x_c8 ?x_k8 ?x_a9 ?x_pr9 ?x_pt9 ?x_px9 ?x_l9 ?x_c9 ?x_k9 ?x_a10 ?x_l10 ?x_c10 ?x_k10 ?x_a11 ?x_l11 ?x_c11 ?x_k11 ?x_a12 ?x_l12 ?x_c12 ?x_k12 ?x_a13 ?x_l13 ?x_c13 ?x_k13 ?x_a14 ?x_l14 ?x_c14 ?x_k14 ?x_a15 ?x_l15 ?x_c15 ?x_k15 ?x_a16 ?x_l16 ?x_c16 ?x_k16 ?x_a17 ?x_i17 ?x_mk_Service ?x_l17 ?x_c17 ?x_k17 ?x_a18 ?x_l18 ?x_c18 ?x_k18 ?x_a19 ?x_l19 ?x_c19 ?x_k19 ?x_a20 ?x_l20 ?x_c20 ?x_k20 ?x_a21 ?x_l21 ?x_c21 ?x_k21 ?x_a22 ?x_l22 ?x_c22 ?x_k22 ?x_a23 ?x_l23 ?x_c23 ?x_k23 ?x_a24 ?x_l24 ?x_c24 ?x_k24 ?x_a25 ?x_l25 ?x_c25 ?x_k25 ?x_z_abs ?x_z_all ?x_z_bool ?x_z_enumerate ?x_z_int ?x_z_isinstance ?x_z_len ?x_z_list ?x_z_max ?x_z_min ?x_z_range ?x_z_repr ?x_z_set ?x_z_str ?x_w_LETTERS ?x_w_MOST_LETTERS
      (case x_ihn => k_is)
      (case x_itk => k_is)
      (case x_a_CutError => k_is)
      (case x_oe_CutError => k_is)
      (case x_rv_CutError => decide +kernel)
      (case x_sa_CutError => k_is)
      (case x_xb_CutError => k_is)
      (case x_ty_CutError => k_is)
      (case x_kc_CutError => k_is)
      (case x_ei_CutError => k_is)
      (case x_ev_CutError => k_is)
      (case x_et_CutError => k_is)
      (case x_ga_CutError => k_is)
      (case x_gg_CutError => k_is)
      (case x_hd_CutError => k_is)
      (case x_iha_CutError => k_is)
      (case x_imr_CutError => k_is)
      (case x_a_InvalidName => k_is)
      (case x_oe_InvalidName => k_is)
      (case x_rv_InvalidName => decide +kernel)
      (case x_sa_InvalidName => k_is)
      (case x_xb_InvalidName => k_is)
      (case x_ty_InvalidName => k_is)
      (case x_kc_InvalidName => k_is)
      (case x_ei_InvalidName => k_is)
      (case x_ev_InvalidName => k_is)
      (case x_et_InvalidName => k_is)
      (case x_ga_InvalidName => k_is)
      (case x_gg_InvalidName => k_is)
      (case x_hd_InvalidName => k_is)
      (case x_iha_InvalidName => k_is)
      (case x_imr_InvalidName => k_is)
      (case x_a_InvalidState => k_is)
      (case x_oe_InvalidState => k_is)
      (case x_rv_InvalidState => decide +kernel)
      (case x_sa_InvalidState => k_is)
      (case x_xb_InvalidState => k_is)
      (case x_ty_InvalidState => k_is)
      (case x_kc_InvalidState => k_is)
      (case x_ei_InvalidState => k_is)
      (case x_ev_InvalidState => k_is)
      (case x_et_InvalidState => k_is)
      (case x_ga_InvalidState => k_is)
      (case x_gg_InvalidState => k_is)
      (case x_hd_InvalidState => k_is)
      (case x_iha_InvalidState => k_is)
      (case x_imr_InvalidState => k_is)
      (case x_a_Service => k_is)
      (case x_pg_Service => k_is)
      (case x_hd_Service => k_is)
      (case x_po_Service => k_is)
      (case x_sa_Service => k_is)
      (case x_kc_Service => k_is)
      (case x_na_Service__names => k_is)
      (case x_na_Service__places => k_is)
      (case x_na_Service__rows => k_is)
      (case x_na_Service_value => k_is)
      (case x_a_UnknownCall => k_is)
      (case x_oe_UnknownCall => k_is)
      (case x_rv_UnknownCall => decide +kernel)
      (case x_sa_UnknownCall => k_is)
      (case x_xb_UnknownCall => k_is)
      (case x_ty_UnknownCall => k_is)
      (case x_kc_UnknownCall => k_is)
      (case x_ei_UnknownCall => k_is)
      (case x_ev_UnknownCall => k_is)
      (case x_et_UnknownCall => k_is)
      (case x_ga_UnknownCall => k_is)
      (case x_gg_UnknownCall => k_is)
      (case x_hd_UnknownCall => k_is)
      (case x_iha_UnknownCall => k_is)
      (case x_imr_UnknownCall => k_is)
      (case x_su_CutError_CutError => k_is)
      (case x_su_CutError_InvalidName => k_is)
      (case x_su_CutError_InvalidState => k_is)
      (case x_su_CutError_UnknownCall => k_is)
      (case x_su_InvalidName_CutError => k_is)
      (case x_su_InvalidName_InvalidName => k_is)
      (case x_su_InvalidName_InvalidState => k_is)
      (case x_su_InvalidName_UnknownCall => k_is)
      (case x_su_InvalidState_CutError => k_is)
      (case x_su_InvalidState_InvalidName => k_is)
      (case x_su_InvalidState_InvalidState => k_is)
      (case x_su_InvalidState_UnknownCall => k_is)
      (case x_su_UnknownCall_CutError => k_is)
      (case x_su_UnknownCall_InvalidName => k_is)
      (case x_su_UnknownCall_InvalidState => k_is)
      (case x_su_UnknownCall_UnknownCall => k_is)
      (case x_a0 => k_is)
      (case x_i0 => k_is)
      (case x_l0 => k_is)
      (case x_c0 => k_is)
      (case x_k0 => k_is)
      (case x_a1 => k_is)
      (case x_l1 => k_is)
      (case x_c1 => k_is)
      (case x_k1 => k_is)
      (case x_a2 => k_is)
      (case x_i2 => k_is)
      (case x_l2 => k_is)
      (case x_c2 => k_is)
      (case x_k2 => k_is)
      (case x_a3 => k_is)
      (case x_i3 => k_is)
      (case x_l3 => k_is)
      (case x_c3 => k_is)
      (case x_k3 => k_is)
      (case x_lt3 => k_is)
      (case x_a4 => k_is)
      (case x_l4 => k_is)
      (case x_c4 => k_is)
      (case x_k4 => k_is)
      (case x_a5 => k_is)
      (case x_l5 => k_is)
      (case x_c5 => k_is)
      (case x_k5 => k_is)
      (case x_a6 => k_is)
      (case x_i6 => k_is)
      (case x_fn6 => k_is)
      (case x_l6 => k_is)
      (case x_c6 => k_is)
      (case x_k6 => k_is)
      (case x_a7 => k_is)
      (case x_i7 => k_is)
      (case x_l7 => k_is)
      (case x_c7 => k_is)
      (case x_k7 => k_is)
      (case x_a8 => k_is)
      (case x_pr8 => k_is)
      (case x_pt8 => k_is)
      (case x_px8 => k_is)
      (case x_l8 => k_is)
      (case x_c8 => k_is)
      (case x_k8 => k_is)
      (case x_a9 => k_is)
      (case x_pr9 => k_is)
      (case x_pt9 => k_is)
      (case x_px9 => k_is)
      (case x_l9 => k_is)
      (case x_c9 => k_is)
      (case x_k9 => k_is)
      (case x_a10 => k_is)
      (case x_l10 => k_is)
      (case x_c10 => k_is)
      (case x_k10 => k_is)
      (case x_a11 => k_is)
      (case x_l11 => k_is)
      (case x_c11 => k_is)
      (case x_k11 => k_is)
      (case x_a12 => k_is)
      (case x_l12 => k_is)
      (case x_c12 => k_is)
      (case x_k12 => k_is)
      (case x_a13 => k_is)
      (case x_l13 => k_is)
      (case x_c13 => k_is)
      (case x_k13 => k_is)
      (case x_a14 => k_is)
      (case x_l14 => k_is)
      (case x_c14 => k_is)
      (case x_k14 => k_is)
      (case x_a15 => k_is)
      (case x_l15 => k_is)
      (case x_c15 => k_is)
      (case x_k15 => k_is)
      (case x_a16 => k_is)
      (case x_l16 => k_is)
      (case x_c16 => k_is)
      (case x_k16 => k_is)
      (case x_a17 => k_is)
      (case x_i17 => k_is)
      (case x_mk_Service => k_is)
      (case x_l17 => k_is)
      (case x_c17 => k_is)
      (case x_k17 => k_is)
      (case x_a18 => k_is)
      (case x_l18 => k_is)
      (case x_c18 => k_is)
      (case x_k18 => k_is)
      (case x_a19 => k_is)
      (case x_l19 => k_is)
      (case x_c19 => k_is)
      (case x_k19 => k_is)
      (case x_a20 => k_is)
      (case x_l20 => k_is)
      (case x_c20 => k_is)
      (case x_k20 => k_is)
      (case x_a21 => k_is)
      (case x_l21 => k_is)
      (case x_c21 => k_is)
      (case x_k21 => k_is)
      (case x_a22 => k_is)
      (case x_l22 => k_is)
      (case x_c22 => k_is)
      (case x_k22 => k_is)
      (case x_a23 => k_is)
      (case x_l23 => k_is)
      (case x_c23 => k_is)
      (case x_k23 => k_is)
      (case x_a24 => k_is)
      (case x_l24 => k_is)
      (case x_c24 => k_is)
      (case x_k24 => k_is)
      (case x_a25 => k_is)
      (case x_l25 => k_is)
      (case x_c25 => k_is)
      (case x_k25 => k_is)
      (case x_z_abs => k_is)
      (case x_z_all => k_is)
      (case x_z_bool => k_is)
      (case x_z_enumerate => k_is)
      (case x_z_int => k_is)
      (case x_z_isinstance => k_is)
      (case x_z_len => k_is)
      (case x_z_list => k_is)
      (case x_z_max => k_is)
      (case x_z_min => k_is)
      (case x_z_range => k_is)
      (case x_z_repr => k_is)
      (case x_z_set => k_is)
      (case x_z_str => k_is)
      (case x_w_LETTERS => k_is)
      (case x_w_MOST_LETTERS => k_is)
#print axioms PySem.Challenge.cw_anycut_k02_services_as_constructed_holds

