import PyProof.Rows.All
import Wide.All
import OpenK.AllK
import Wide.FinOn
import HandS.ForMost
import HandS.Lambda
import HandS.Wide
import HandS.SetKeys
import HandS.IsInst
import HandS.Deep
import HandS.More
import HandS.TupAny
import PyProof.ReprRoads
import HandS.Property
import HandS.MakeKwOnly
import HandS.DictComp
import HandS.Style
import HandS.OwnEq
import HandS.RaiseMore
import HandS.Defaults
import PyProof.ReprLen
import PyProof.StrLawsRepr
import HandS.WideBits
import HandS.MakeKw
import HandS.Conv
import HandS.Iter
import HandS.Zip
import HandS.SetFor
import PyProof.InstNe
import HandS.NamedTup0
import HandS.Dict
import HandS.Exc
import HandS.ExcOwn
import HandS.ExcInit
import HandS.ExcIs
import HandS.ExcField
import PyProof.Rows.StrRev
import PyProof.Rows.StrStep
import HandS.EndBits
import HandS.SortKw
import HandS.Keys
import KE.KSortKey
import HandS.NoneIn
import HandS.RevRange
import HandS.EndTab
import HandS.SortRule
import HandS.Finally
import PyProof.NeKinds
import HandS.ListItems
import PyProof.Rows.ReprOcc
import PyProof.ReprText
import HandS.DictEq
import KE.GoesMore
import HandS.Star
import KE.KSuper
import HandS.ClsMeth
import PyProof.Rows.SetFrom
import PySem.Challenge.RW_anycut_k04_equal_services
set_option Elab.async false
set_option linter.all false
set_option maxRecDepth 100000
set_option autoImplicit false
/-! A small logic of data over the hand layer: what a value reads as, what stands still, what cells may change. -/
namespace DL
open PySem PySem.Spec PyProof.Rows L2

/-- data, as the proofs speak of them; adr: a cell that may still change -/
inductive D where
  | non | bl (b : Bool) | int (i : Int) | str (x : Str) | adr (a : Addr) | ty (n : String) | scr (ns : List Int)
  | lst (xs : List D) | tup (xs : List D) | dic (kvs : List (Key × D)) | ins (C : Addr) (fs : List (Str × D))

mutual
/-- in the still part F of a heap a value reads as these data -/
inductive Rd (K : PySem.W.Frag) (F : Hp) : V → D → Prop
  | non : Rd K F .non .non
  | bl (b : Bool) : Rd K F (.bl b) (.bl b)
  | int (i : Int) : Rd K F (.int i) (.int i)
  | str (x : Str) : Rd K F (.str x) (.str x)
  | adr (a : Addr) : Rd K F (.ref a) (.adr a)
  | ty (n : String) : Rd K F (.ty n) (.ty n)
  | scr {a : Addr} {ns : List Int} : SqL K F a (ns.map V.int) → Rd K F (.ref a) (.scr ns)
  | lst {a : Addr} {xs : List V} {ds : List D} : F a = some (.lst xs) → RdL K F xs ds → Rd K F (.ref a) (.lst ds)
  | tup {a : Addr} {xs : List V} {ds : List D} : SqT K F a xs → RdL K F xs ds → Rd K F (.ref a) (.tup ds)
  | dic {a : Addr} {vs : List (Key × V)} {ds : List (Key × D)} : F a = some (.dK vs) → vs.map Prod.fst = ds.map Prod.fst → RdL K F (vs.map Prod.snd) (ds.map Prod.snd) → Rd K F (.ref a) (.dic ds)
  | ins {a C dx : Addr} {vs : List (Str × V)} {ds : List (Str × D)} : F a = some (.ins C dx vs) → vs.map Prod.fst = ds.map Prod.fst → RdL K F (vs.map Prod.snd) (ds.map Prod.snd) → Rd K F (.ref a) (.ins C ds)
inductive RdL (K : PySem.W.Frag) (F : Hp) : List V → List D → Prop
  | nil : RdL K F [] []
  | cons {v : V} {vs : List V} {d : D} {ds : List D} : Rd K F v d → RdL K F vs ds → RdL K F (v :: vs) (d :: ds)
end

/-- all that stands in F stands in F' -/
def Sub (F F' : Hp) : Prop := ∀ a o, F a = some o → F' a = some o
theorem Sub.refl (F : Hp) : Sub F F := fun _ _ h => h
theorem Sub.trans {F G H : Hp} (a : Sub F G) (b : Sub G H) : Sub F H := fun x o h => b x o (a x o h)
theorem Sub.rd {F F' : Hp} {a : Addr} {u : HO} (e : Sub F F') (h : L2.Rd F a u) : L2.Rd F' a u := by
  rcases h with q | ⟨o, q⟩
  · exact .inl (e _ _ q)
  · exact .inr ⟨o, e _ _ q⟩
theorem Sub.sql {K : PySem.W.Frag} {F F' : Hp} {a : Addr} {xs : List V} (e : Sub F F') (h : SqL K F a xs) : SqL K F' a xs := by
  rcases h with q | q
  · exact .inl (e.rd q)
  · exact .inr q
theorem Sub.sqt {K : PySem.W.Frag} {F F' : Hp} {a : Addr} {xs : List V} (e : Sub F F') (h : SqT K F a xs) : SqT K F' a xs := by
  rcases h with q | q
  · exact .inl (e.rd q)
  · exact .inr q

mutual
theorem Rd.mono {K : PySem.W.Frag} {F F' : Hp} (e : Sub F F') : ∀ {v : V} {d : D}, Rd K F v d → Rd K F' v d
  | _, _, .non => .non
  | _, _, .bl b => .bl b
  | _, _, .int i => .int i
  | _, _, .str x => .str x
  | _, _, .adr a => .adr a
  | _, _, .ty n => .ty n
  | _, _, .scr h => .scr (e.sql h)
  | _, _, .lst h r => .lst (e _ _ h) (RdL.mono e r)
  | _, _, .tup h r => .tup (e.sqt h) (RdL.mono e r)
  | _, _, .dic h k r => .dic (e _ _ h) k (RdL.mono e r)
  | _, _, .ins h k r => .ins (e _ _ h) k (RdL.mono e r)
theorem RdL.mono {K : PySem.W.Frag} {F F' : Hp} (e : Sub F F') : ∀ {vs : List V} {ds : List D}, RdL K F vs ds → RdL K F' vs ds
  | _, _, .nil => .nil
  | _, _, .cons h r => .cons (Rd.mono e h) (RdL.mono e r)
end
theorem RdL.length {K : PySem.W.Frag} {F : Hp} : ∀ {vs : List V} {ds : List D}, RdL K F vs ds → vs.length = ds.length
  | _, _, .nil => rfl
  | _, _, .cons _ r => by rw [List.length_cons, List.length_cons, RdL.length r]
theorem RdL.get {K : PySem.W.Frag} {F : Hp} : ∀ {vs : List V} {ds : List D} {i : Nat} {d : D}, RdL K F vs ds → ds[i]? = some d → ∃ v, vs[i]? = some v ∧ Rd K F v d
  | _, _, _, _, .nil, e => by simp at e
  | _, _, 0, _, .cons h _, e => by
    simp at e
    subst e
    exact ⟨_, rfl, h⟩
  | _, _, i + 1, d, .cons _ r, e => by
    obtain ⟨v, h1, h2⟩ := RdL.get (i := i) (d := d) r (by simpa using e)
    exact ⟨v, by simpa using h1, h2⟩
theorem RdL.append {K : PySem.W.Frag} {F : Hp} : ∀ {vs ws : List V} {ds es : List D}, RdL K F vs ds → RdL K F ws es → RdL K F (vs ++ ws) (ds ++ es)
  | _, _, _, _, .nil, s => s
  | _, _, _, _, .cons h r, s => .cons h (RdL.append r s)
theorem RdL.snoc {K : PySem.W.Frag} {F : Hp} {vs : List V} {ds : List D} {v : V} {d : D} (r : RdL K F vs ds) (h : Rd K F v d) : RdL K F (vs ++ [v]) (ds ++ [d]) := r.append (.cons h .nil)
theorem RdL.set {K : PySem.W.Frag} {F : Hp} {v : V} {d : D} (h : Rd K F v d) : ∀ {vs : List V} {ds : List D} (i : Nat), RdL K F vs ds → RdL K F (vs.set i v) (ds.set i d)
  | _, _, _, .nil => .nil
  | _, _, 0, .cons _ r => .cons h r
  | _, _, i + 1, .cons q r => .cons q (RdL.set h i r)
theorem RdL.take {K : PySem.W.Frag} {F : Hp} : ∀ {vs : List V} {ds : List D} (n : Nat), RdL K F vs ds → RdL K F (vs.take n) (ds.take n)
  | _, _, 0, _ => .nil
  | _, _, _ + 1, .nil => .nil
  | _, _, n + 1, .cons h r => .cons h (RdL.take n r)
theorem RdL.drop {K : PySem.W.Frag} {F : Hp} : ∀ {vs : List V} {ds : List D} (n : Nat), RdL K F vs ds → RdL K F (vs.drop n) (ds.drop n)
  | _, _, 0, r => r
  | _, _, _ + 1, .nil => .nil
  | _, _, n + 1, .cons _ r => RdL.drop n r
theorem RdL.reverse {K : PySem.W.Frag} {F : Hp} : ∀ {vs : List V} {ds : List D}, RdL K F vs ds → RdL K F vs.reverse ds.reverse
  | _, _, .nil => .nil
  | _, _, .cons h r => by
    rw [List.reverse_cons, List.reverse_cons]
    exact (RdL.reverse r).snoc h
theorem RdL.ints {K : PySem.W.Frag} {F : Hp} : ∀ {ns : List Int}, RdL K F (ns.map V.int) (ns.map D.int)
  | [] => .nil
  | n :: ns => .cons (.int n) RdL.ints
theorem RdL.strs_v {K : PySem.W.Frag} {F : Hp} : ∀ {ns : List Str} {vs : List V}, RdL K F vs (ns.map D.str) → vs = ns.map V.str
  | [], _, .nil => rfl
  | n :: ns, _, .cons h r => by
    cases h
    rw [List.map_cons, RdL.strs_v r]
theorem RdL.bls_v {K : PySem.W.Frag} {F : Hp} : ∀ {ns : List Bool} {vs : List V}, RdL K F vs (ns.map D.bl) → vs = ns.map V.bl
  | [], _, .nil => rfl
  | n :: ns, _, .cons h r => by
    cases h
    rw [List.map_cons, RdL.bls_v r]

/-! ### cells that may change -/
inductive Cell where
  | lst (xs : List D) | dic (kvs : List (Key × D)) | ins (C : Addr) (fs : List (Str × D)) | xd (fs : List (Str × D)) | obj (o : HO) | tbl (q : Str) | dct (kvs : List (List Key × D))
abbrev Mem := List (Addr × Cell)
/-- the still part: all but the cells -/
def hide (m : Mem) (H : Hp) : Hp := fun a => if a ∈ m.map Prod.fst then none else H a
def CellAt (K : PySem.W.Frag) (F H : Hp) (p : Addr) : Cell → Prop
  | .lst ds => ∃ xs, H p = some (.lst xs) ∧ RdL K F xs ds
  | .dic ds => ∃ vs : List (Key × V), H p = some (.dK vs) ∧ vs.map Prod.fst = ds.map Prod.fst ∧ RdL K F (vs.map Prod.snd) (ds.map Prod.snd)
  | .dct ds => ∃ vs : List (List Key × V), H p = some (.dT vs) ∧ vs.map Prod.fst = ds.map Prod.fst ∧ RdL K F (vs.map Prod.snd) (ds.map Prod.snd)
  | .ins C ds => ∃ (dx : Addr) (vs : List (Str × V)), H p = some (.ins C dx vs) ∧ vs.map Prod.fst = ds.map Prod.fst ∧ RdL K F (vs.map Prod.snd) (ds.map Prod.snd)
  | .xd ds => ∃ vs : List (Str × V), H p = some (.xd vs) ∧ vs.map Prod.fst = ds.map Prod.fst ∧ RdL K F (vs.map Prod.snd) (ds.map Prod.snd)
  | .obj o => H p = some o
  | .tbl q => ∃ ps : Array Value, H p = some (.tbl ps) ∧ PySem.TriplesOk ps.toList ∧ ∀ (pos : Pos) (cv : Value), PySem.codeAmong pos ps.toList = some cv → ∃ c, cv = .ref c ∧ F c = some (LamX.CodeO c q)
structure MemOk (K : PySem.W.Frag) (m : Mem) (H : Hp) : Prop where
  nd : (m.map Prod.fst).Nodup
  at_ : ∀ p c, (p, c) ∈ m → CellAt K (hide m H) H p c

theorem hide_in {m : Mem} {H : Hp} {a : Addr} (h : a ∈ m.map Prod.fst) : hide m H a = none := if_pos h
theorem hide_out {m : Mem} {H : Hp} {a : Addr} (h : a ∉ m.map Prod.fst) : hide m H a = H a := if_neg h
theorem hide_le {m : Mem} {H : Hp} : Sub (hide m H) H := fun a o e => by
  by_cases h : a ∈ m.map Prod.fst
  · rw [hide_in h] at e; cases e
  · rw [hide_out h] at e; exact e
theorem CellAt.some {K : PySem.W.Frag} {F H : Hp} {p : Addr} {c : Cell} (h : CellAt K F H p c) : ∃ o, H p = some o := by
  cases c with
  | lst => obtain ⟨_, e, _⟩ := h; exact ⟨_, e⟩
  | dic => obtain ⟨_, e, _⟩ := h; exact ⟨_, e⟩
  | ins => obtain ⟨_, _, e, _⟩ := h; exact ⟨_, e⟩
  | xd => obtain ⟨_, e, _⟩ := h; exact ⟨_, e⟩
  | obj o => exact ⟨_, h⟩
  | tbl q => obtain ⟨_, e, _⟩ := h; exact ⟨_, e⟩
  | dct => obtain ⟨_, e, _⟩ := h; exact ⟨_, e⟩
theorem CellAt.mono {K : PySem.W.Frag} {F F' H H' : Hp} {p : Addr} {c : Cell} (h : CellAt K F H p c) (e : Sub F F') (k : H' p = H p) : CellAt K F' H' p c := by
  cases c with
  | lst => obtain ⟨xs, q, r⟩ := h; exact ⟨xs, k.trans q, r.mono e⟩
  | dic => obtain ⟨xs, q, n, r⟩ := h; exact ⟨xs, k.trans q, n, r.mono e⟩
  | ins => obtain ⟨dx, xs, q, n, r⟩ := h; exact ⟨dx, xs, k.trans q, n, r.mono e⟩
  | xd => obtain ⟨xs, q, n, r⟩ := h; exact ⟨xs, k.trans q, n, r.mono e⟩
  | dct => obtain ⟨xs, q, n, r⟩ := h; exact ⟨xs, k.trans q, n, r.mono e⟩
  | obj o => exact k.trans h
  | tbl q =>
    obtain ⟨ps, h1, h2, h3⟩ := h
    refine ⟨ps, k.trans h1, h2, fun pos cv hc => ?_⟩
    obtain ⟨c, e1, e2⟩ := h3 pos cv hc
    exact ⟨c, e1, e _ _ e2⟩
section
variable {K : PySem.W.Frag} {m : Mem} {H : Hp}
theorem MemOk.tracked (M : MemOk K m H) {p : Addr} (h : p ∈ m.map Prod.fst) : ∃ o, H p = some o := by
  obtain ⟨⟨q, c⟩, hm, rfl⟩ := List.mem_map.mp h
  exact (M.at_ _ _ hm).some
theorem MemOk.fresh (M : MemOk K m H) {p : Addr} (h : H p = none) : p ∉ m.map Prod.fst := fun q => by
  obtain ⟨o, e⟩ := M.tracked q
  rw [h] at e; cases e
/-- a new still object -/
theorem hide_new (M : MemOk K m H) {p : Addr} {o : HO} (h : H p = none) : hide m (upd H p o) = upd (hide m H) p o := by
  funext a
  have np := M.fresh h
  by_cases e : a = p
  · subst e
    rw [hide_out np, upd_same, upd_same]
  · rw [upd_ne e]
    unfold hide
    rw [upd_ne e]
theorem Sub.new {F : Hp} {p : Addr} {o : HO} (h : F p = none) : Sub F (upd F p o) := fun a u e => by
  rw [upd_ne (ne_of_none e h)]
  exact e
theorem hide_none {p : Addr} (h : H p = none) : hide m H p = none := by
  by_cases q : p ∈ m.map Prod.fst
  · exact hide_in q
  · rw [hide_out q]; exact h
theorem MemOk.new (M : MemOk K m H) {p : Addr} {o : HO} (h : H p = none) : MemOk K m (upd H p o) ∧ Sub (hide m H) (hide m (upd H p o)) := by
  have s : Sub (hide m H) (hide m (upd H p o)) := by
    rw [hide_new M h]
    exact Sub.new (hide_none h)
  refine ⟨⟨M.nd, fun q c hm => (M.at_ q c hm).mono s (upd_ne fun e => ?_)⟩, s⟩
  subst e
  exact M.fresh h (List.mem_map.mpr ⟨_, hm, rfl⟩)
/-- a new cell -/
theorem hide_cell {p : Addr} {c : Cell} {o : HO} (h : H p = none) : hide (m ++ [(p, c)]) (upd H p o) = hide m H := by
  funext a
  unfold hide
  rw [List.map_append]
  by_cases e : a = p
  · subst e
    rw [if_pos (by simp)]
    by_cases q : a ∈ m.map Prod.fst
    · rw [if_pos q]
    · rw [if_neg q, h]
  · rw [upd_ne e]
    by_cases q : a ∈ m.map Prod.fst
    · rw [if_pos q, if_pos (List.mem_append_left _ q)]
    · rw [if_neg q, if_neg (by simp only [List.map_cons, List.map_nil, List.mem_append, List.mem_singleton]; intro z; rcases z with z | z; exact q z; exact e z)]
theorem MemOk.cell (M : MemOk K m H) {p : Addr} {c : Cell} {o : HO} (h : H p = none) (hc : CellAt K (hide m H) (upd H p o) p c) : MemOk K (m ++ [(p, c)]) (upd H p o) := by
  have np := M.fresh h
  refine ⟨?_, fun q d hm => ?_⟩
  · rw [List.map_append]
    refine List.nodup_append.mpr ⟨M.nd, by simp, fun a ha b hb => ?_⟩
    simp at hb
    subst hb
    intro e; subst e; exact np ha
  · rw [hide_cell h]
    rcases List.mem_append.mp hm with z | z
    · refine (M.at_ q d z).mono (Sub.refl _) (upd_ne fun e => ?_)
      subst e
      exact np (List.mem_map.mpr ⟨_, z, rfl⟩)
    · simp at z
      obtain ⟨rfl, rfl⟩ := z
      exact hc
/-- a cell changes -/
theorem hide_set {i : Nat} {p : Addr} {c c' : Cell} {o : HO} (hi : m[i]? = some (p, c)) : hide (m.set i (p, c')) (upd H p o) = hide m H := by
  have e1 : (m.set i (p, c')).map Prod.fst = m.map Prod.fst := by
    rw [List.map_set]
    exact List.ext_getElem? fun j => by
      rw [List.getElem?_set]
      by_cases e : i = j
      · subst e
        rw [if_pos rfl]
        by_cases l : i < (m.map Prod.fst).length
        · rw [if_pos l, List.getElem?_map, hi]; rfl
        · rw [if_neg l, List.getElem?_eq_none (by omega)]
      · rw [if_neg e]
  funext a
  unfold hide
  rw [e1]
  by_cases e : a ∈ m.map Prod.fst
  · rw [if_pos e, if_pos e]
  · rw [if_neg e, if_neg e, upd_ne]
    intro z
    subst z
    exact e (List.mem_map.mpr ⟨_, List.mem_of_getElem? hi, rfl⟩)
theorem fst_set {i : Nat} {p : Addr} {c c' : Cell} (hi : m[i]? = some (p, c)) : (m.set i (p, c')).map Prod.fst = m.map Prod.fst := by
  rw [List.map_set]
  exact List.ext_getElem? fun j => by
    rw [List.getElem?_set]
    by_cases e : i = j
    · subst e
      rw [if_pos rfl]
      by_cases l : i < (m.map Prod.fst).length
      · rw [if_pos l, List.getElem?_map, hi]; rfl
      · rw [if_neg l, List.getElem?_eq_none (by omega)]
    · rw [if_neg e]
theorem MemOk.set (M : MemOk K m H) {i : Nat} {p : Addr} {c c' : Cell} {o : HO} (hi : m[i]? = some (p, c)) (hc : CellAt K (hide m H) (upd H p o) p c') : MemOk K (m.set i (p, c')) (upd H p o) := by
  refine ⟨by rw [fst_set hi]; exact M.nd, fun q d hm => ?_⟩
  rw [hide_set hi]
  obtain ⟨j, hj⟩ := List.getElem?_of_mem hm
  rw [List.getElem?_set] at hj
  by_cases e : i = j
  · subst e
    rw [if_pos rfl] at hj
    split at hj
    · cases hj
      exact hc
    · cases hj
  · rw [if_neg e] at hj
    refine (M.at_ q d (List.mem_of_getElem? hj)).mono (Sub.refl _) (upd_ne fun z => ?_)
    subst z
    have l1 : i < (m.map Prod.fst).length := by
      rw [List.length_map]
      exact (List.getElem?_eq_some_iff.mp hi).1
    exact e ((List.getElem?_inj l1 M.nd).mp (by rw [List.getElem?_map, List.getElem?_map, hi, hj] <;> rfl))
theorem MemOk.get (M : MemOk K m H) {i : Nat} {p : Addr} {c : Cell} (hi : m[i]? = some (p, c)) : CellAt K (hide m H) H p c := M.at_ _ _ (List.mem_of_getElem? hi)
end
end DL

set_option Elab.async false
set_option linter.all false
set_option maxRecDepth 100000
namespace DL
open PySem PySem.Spec PyProof.Rows L2
set_option autoImplicit false

/-- the slots of a frame, as data (none: not known) -/
structure Sl (K : PySem.W.Frag) (F : Hp) (σ : L2.St) (δ : List (Option D)) : Prop where
  len : σ.length = δ.length
  at_ : ∀ (i : Nat) (d : D), δ[i]? = some (some d) → ∃ v, σ[i]? = some (some v) ∧ Rd K F v d
theorem Sl.mono {K : PySem.W.Frag} {F F' : Hp} {σ : L2.St} {δ : List (Option D)} (h : Sl K F σ δ) (e : Sub F F') : Sl K F' σ δ :=
  ⟨h.len, fun i d q => let ⟨v, a, r⟩ := h.at_ i d q; ⟨v, a, r.mono e⟩⟩
theorem Sl.set {K : PySem.W.Frag} {F : Hp} {σ : L2.St} {δ : List (Option D)} (h : Sl K F σ δ) {v : V} {d : D} (i : Nat) (r : Rd K F v d) : Sl K F (σ.set i (some v)) (δ.set i (some d)) := by
  refine ⟨by rw [List.length_set, List.length_set]; exact h.len, fun j e q => ?_⟩
  rw [List.getElem?_set] at q
  rw [List.getElem?_set]
  by_cases c : i = j
  · subst c
    rw [if_pos rfl] at q ⊢
    by_cases l : i < δ.length
    · rw [if_pos l] at q
      rw [if_pos (by rw [h.len]; exact l)]
      cases q
      exact ⟨v, rfl, r⟩
    · rw [if_neg l] at q; cases q
  · rw [if_neg c] at q ⊢
    exact h.at_ j e q
theorem Sl.unset {K : PySem.W.Frag} {F : Hp} {σ : L2.St} {δ : List (Option D)} (h : Sl K F σ δ) (i : Nat) : Sl K F (σ.set i none) (δ.set i none) := by
  refine ⟨by rw [List.length_set, List.length_set]; exact h.len, fun j e q => ?_⟩
  rw [List.getElem?_set] at q
  rw [List.getElem?_set]
  by_cases c : i = j
  · subst c
    rw [if_pos rfl] at q
    split at q <;> cases q
  · rw [if_neg c] at q ⊢
    exact h.at_ j e q
def wipeD (δ : List (Option D)) : List Nat → List (Option D)
  | [] => δ
  | v :: vs => (wipeD δ vs).set v none
theorem Sl.wipe {K : PySem.W.Frag} {F : Hp} {σ : L2.St} {δ : List (Option D)} (h : Sl K F σ δ) : ∀ vs : List Nat, Sl K F (wipe σ vs) (wipeD δ vs)
  | [] => h
  | v :: vs => by
    unfold L2.wipe wipeD
    exact (Sl.wipe h vs).unset v

section
variable (K : PySem.W.Frag)
/-- an expression, from the slots and the cells, ends in data with which Q holds -/
def EW (te : TE) (δ : List (Option D)) (m : Mem) (Q : D → Mem → Prop) : Prop := ∀ (σ : L2.St) (H : Hp), Sl K (hide m H) σ δ → MemOk K m H → ∀ QQ : VK,
  (∀ (d : D) (m' : Mem) (v : V) (H' : Hp), Q d m' → Sub (hide m H) (hide m' H') → MemOk K m' H' → Rd K (hide m' H') v d → QQ v H') → te σ H QQ
def TW (tt : TT) (δ : List (Option D)) (m : Mem) (Q : Bool → Mem → Prop) : Prop := ∀ (σ : L2.St) (H : Hp), Sl K (hide m H) σ δ → MemOk K m H → ∀ QQ : Bool → Hp → Prop,
  (∀ (b : Bool) (m' : Mem) (H' : Hp), Q b m' → Sub (hide m H) (hide m' H') → MemOk K m' H' → QQ b H') → tt σ H QQ
def AW (ta : TA) (δ : List (Option D)) (m : Mem) (Q : List D → Mem → Prop) : Prop := ∀ (σ : L2.St) (H : Hp), Sl K (hide m H) σ δ → MemOk K m H → ∀ QQ : List V → Hp → Prop,
  (∀ (ds : List D) (m' : Mem) (vs : List V) (H' : Hp), Q ds m' → Sub (hide m H) (hide m' H') → MemOk K m' H' → RdL K (hide m' H') vs ds → QQ vs H') → ta σ H QQ
/-- an operation on two values; a call on values; a method -/
def OW (r : R2) (x y : D) (m : Mem) (Q : D → Mem → Prop) : Prop := ∀ (H : Hp) (v w : V), MemOk K m H → Rd K (hide m H) v x → Rd K (hide m H) w y → ∀ QQ : VK,
  (∀ (d : D) (m' : Mem) (u : V) (H' : Hp), Q d m' → Sub (hide m H) (hide m' H') → MemOk K m' H' → Rd K (hide m' H') u d → QQ u H') → r v w H QQ
def UW (r : V → Hp → VK → Prop) (x : D) (m : Mem) (Q : D → Mem → Prop) : Prop := ∀ (H : Hp) (v : V), MemOk K m H → Rd K (hide m H) v x → ∀ QQ : VK,
  (∀ (d : D) (m' : Mem) (u : V) (H' : Hp), Q d m' → Sub (hide m H) (hide m' H') → MemOk K m' H' → Rd K (hide m' H') u d → QQ u H') → r v H QQ
def CW (r : List V → Hp → VK → Prop) (xs : List D) (m : Mem) (Q : D → Mem → Prop) : Prop := ∀ (H : Hp) (vs : List V), MemOk K m H → RdL K (hide m H) vs xs → ∀ QQ : VK,
  (∀ (d : D) (m' : Mem) (u : V) (H' : Hp), Q d m' → Sub (hide m H) (hide m' H') → MemOk K m' H' → Rd K (hide m' H') u d → QQ u H') → r vs H QQ
/-- a method of a built-in type: the receiver, the arguments -/
def MW (r : V → List V → Hp → VK → Prop) (x : D) (xs : List D) (m : Mem) (Q : D → Mem → Prop) : Prop := ∀ (H : Hp) (v : V) (vs : List V), MemOk K m H → Rd K (hide m H) v x → RdL K (hide m H) vs xs → ∀ QQ : VK,
  (∀ (d : D) (m' : Mem) (u : V) (H' : Hp), Q d m' → Sub (hide m H) (hide m' H') → MemOk K m' H' → Rd K (hide m' H') u d → QQ u H') → r v vs H QQ

/-- what is wanted behind a statement -/
structure Ps where
  nx : List (Option D) → Mem → Prop
  rt : D → Mem → Prop
  bk : List (Option D) → Mem → Prop := fun _ _ => False
  ct : List (Option D) → Mem → Prop := fun _ _ => False
structure Meets (P : Ps) (F : Hp) (E : Ends) : Prop where
  nx : ∀ (δ : List (Option D)) (m : Mem) (σ : L2.St) (H : Hp), P.nx δ m → Sub F (hide m H) → Sl K (hide m H) σ δ → MemOk K m H → E.nx σ H
  rt : ∀ (d : D) (m : Mem) (v : V) (H : Hp), P.rt d m → Sub F (hide m H) → MemOk K m H → Rd K (hide m H) v d → E.rt v H
  bk : ∀ (δ : List (Option D)) (m : Mem) (σ : L2.St) (H : Hp), P.bk δ m → Sub F (hide m H) → Sl K (hide m H) σ δ → MemOk K m H → E.bk σ H
  ct : ∀ (δ : List (Option D)) (m : Mem) (σ : L2.St) (H : Hp), P.ct δ m → Sub F (hide m H) → Sl K (hide m H) σ δ → MemOk K m H → E.ct σ H
def SW (ts : TS) (δ : List (Option D)) (m : Mem) (P : Ps) : Prop := ∀ (σ : L2.St) (H : Hp), Sl K (hide m H) σ δ → MemOk K m H → ∀ E : Ends, Meets K P (hide m H) E → ts E σ H
end
section
variable {K : PySem.W.Frag} {δ : List (Option D)} {m : Mem} {Q : D → Mem → Prop} {te ta tb tc : TE} {P : Ps} {t u : TS} {tt tu : TT} {F F' : Hp} {E : Ends}
theorem Meets.mono (h : Meets K P F E) (e : Sub F F') : Meets K P F' E :=
  ⟨fun δ m σ H a b => h.nx δ m σ H a (e.trans b), fun δ m σ H a b => h.rt δ m σ H a (e.trans b), fun δ m σ H a b => h.bk δ m σ H a (e.trans b), fun δ m σ H a b => h.ct δ m σ H a (e.trans b)⟩

/-! ### expressions -/
theorem EW.imp {Q' : D → Mem → Prop} (h : EW K te δ m Q) (k : ∀ d m', Q d m' → Q' d m') : EW K te δ m Q' := fun σ H s M QQ q => h σ H s M QQ fun d m' v H' a => q d m' v H' (k d m' a)
theorem ew_var {i : Nat} {d : D} (h : δ[i]? = some (some d)) (q : Q d m) : EW K (tVar i) δ m Q := fun σ H s M QQ k => by
  obtain ⟨v, a, r⟩ := s.at_ i d h
  exact ⟨v, a, k d m v H q (Sub.refl _) M r⟩
theorem ew_non (q : Q .non m) : EW K (tC .non) δ m Q := fun σ H s M QQ k => k _ m _ H q (Sub.refl _) M .non
theorem ew_bl {b : Bool} (q : Q (.bl b) m) : EW K (tC (.bl b)) δ m Q := fun σ H s M QQ k => k _ m _ H q (Sub.refl _) M (.bl b)
theorem ew_int {b : Int} (q : Q (.int b) m) : EW K (tC (.int b)) δ m Q := fun σ H s M QQ k => k _ m _ H q (Sub.refl _) M (.int b)
theorem ew_str {b : Str} (q : Q (.str b) m) : EW K (tC (.str b)) δ m Q := fun σ H s M QQ k => k _ m _ H q (Sub.refl _) M (.str b)
theorem ew_op {r : R2} (h : EW K ta δ m fun x m1 => EW K tb δ m1 fun y m2 => OW K r x y m2 Q) : EW K (tOp r ta tb) δ m Q := fun σ H s M QQ k =>
  h σ H s M _ fun x m1 v1 H1 q1 s1 M1 r1 => q1 σ H1 (s.mono s1) M1 _ fun y m2 v2 H2 q2 s2 M2 r2 => q2 H2 v1 v2 M2 (r1.mono s2) r2 _ fun d m3 v3 H3 q3 s3 M3 r3 => k d m3 v3 H3 q3 (s1.trans (s2.trans s3)) M3 r3
theorem ew_un {r : V → Hp → VK → Prop} (h : EW K ta δ m fun x m1 => UW K r x m1 Q) : EW K (tUn r ta) δ m Q := fun σ H s M QQ k =>
  h σ H s M _ fun x m1 v1 H1 q1 s1 M1 r1 => q1 H1 v1 M1 r1 _ fun d m3 v3 H3 q3 s3 M3 r3 => k d m3 v3 H3 q3 (s1.trans s3) M3 r3
theorem aw_nil {Q : List D → Mem → Prop} (q : Q [] m) : AW K tNil δ m Q := fun σ H s M QQ k => k [] m [] H q (Sub.refl _) M .nil
theorem aw_cons {tr : TA} {Q : List D → Mem → Prop} (h : EW K te δ m fun x m1 => AW K tr δ m1 fun xs m2 => Q (x :: xs) m2) : AW K (tCons te tr) δ m Q := fun σ H s M QQ k =>
  h σ H s M _ fun x m1 v1 H1 q1 s1 M1 r1 => q1 σ H1 (s.mono s1) M1 _ fun ds m2 vs H2 q2 s2 M2 r2 => k (x :: ds) m2 (v1 :: vs) H2 q2 (s1.trans s2) M2 (.cons (r1.mono s2) r2)
theorem ew_cb {r : List V → Hp → VK → Prop} {t : TA} (h : AW K t δ m fun xs m1 => CW K r xs m1 Q) : EW K (tCB r t) δ m Q := fun σ H s M QQ k =>
  h σ H s M _ fun ds m1 vs H1 q1 s1 M1 r1 => q1 H1 vs M1 r1 _ fun d m2 v2 H2 q2 s2 M2 r2 => k d m2 v2 H2 q2 (s1.trans s2) M2 r2
/-- a still tuple; a still list; a list that may change -/
theorem ew_tup {t : TA} (h : AW K t δ m fun xs m1 => xs.length ≤ sizeLine ∧ Q (.tup xs) m1) : EW K (tTup t) δ m Q := fun σ H s M QQ k =>
  h σ H s M _ fun ds m1 vs H1 q1 s1 M1 r1 => ⟨by rw [r1.length]; exact q1.1, fun p hp => by
    obtain ⟨M2, s2⟩ := M1.new (o := .tup vs) hp
    refine k (.tup ds) m1 (.ref p) _ q1.2 (s1.trans s2) M2 (.tup ?_ (r1.mono s2))
    rw [hide_new M1 hp]
    exact .inl (.inl upd_same)⟩
theorem ew_lst {t : TA} (h : AW K t δ m fun xs m1 => xs.length ≤ sizeLine ∧ Q (.lst xs) m1) : EW K (tLst t) δ m Q := fun σ H s M QQ k =>
  h σ H s M _ fun ds m1 vs H1 q1 s1 M1 r1 => ⟨by rw [r1.length]; exact q1.1, fun p hp => by
    obtain ⟨M2, s2⟩ := M1.new (o := .lst vs) hp
    refine k (.lst ds) m1 (.ref p) _ q1.2 (s1.trans s2) M2 (.lst ?_ (r1.mono s2))
    rw [hide_new M1 hp]
    exact upd_same⟩
theorem ew_lstM {t : TA} (h : AW K t δ m fun xs m1 => xs.length ≤ sizeLine ∧ ∀ p, Q (.adr p) (m1 ++ [(p, .lst xs)])) : EW K (tLst t) δ m Q := fun σ H s M QQ k =>
  h σ H s M _ fun ds m1 vs H1 q1 s1 M1 r1 => ⟨by rw [r1.length]; exact q1.1, fun p hp => by
    have e : hide (m1 ++ [(p, Cell.lst ds)]) (upd H1 p (.lst vs)) = hide m1 H1 := hide_cell hp
    exact k (.adr p) (m1 ++ [(p, .lst ds)]) (.ref p) _ (q1.2 p) (by rw [e]; exact s1) (M1.cell (c := .lst ds) hp ⟨vs, upd_same, r1⟩) (.adr p)⟩
theorem ew_if (h : TW K tt δ m fun b m1 => if b = true then EW K ta δ m1 Q else EW K tb δ m1 Q) : EW K (tIf tt ta tb) δ m Q := fun σ H s M QQ k =>
  h σ H s M _ fun b m1 H1 q1 s1 M1 => by
    cases b with
    | true => exact (show EW K ta δ m1 Q from q1) σ H1 (s.mono s1) M1 QQ fun d m2 v2 H2 q2 s2 M2 r2 => k d m2 v2 H2 q2 (s1.trans s2) M2 r2
    | false => exact (show EW K tb δ m1 Q from q1) σ H1 (s.mono s1) M1 QQ fun d m2 v2 H2 q2 s2 M2 r2 => k d m2 v2 H2 q2 (s1.trans s2) M2 r2
theorem ew_andV (h : EW K ta δ m fun x m1 => ∃ b, x = .bl b ∧ if b = true then EW K tb δ m1 Q else Q (.bl false) m1) : EW K (tAndV ta tb) δ m Q := fun σ H s M QQ k =>
  h σ H s M _ fun x m1 v1 H1 ⟨b, e, q1⟩ s1 M1 r1 => by
    subst e
    cases r1
    refine ⟨b, rfl, ?_⟩
    cases b with
    | true => exact (show EW K tb δ m1 Q from q1) σ H1 (s.mono s1) M1 QQ fun d m2 v2 H2 q2 s2 M2 r2 => k d m2 v2 H2 q2 (s1.trans s2) M2 r2
    | false => exact k _ m1 _ H1 q1 s1 M1 (.bl false)
theorem ew_orV (h : EW K ta δ m fun x m1 => ∃ b, x = .bl b ∧ if b = true then Q (.bl true) m1 else EW K tb δ m1 Q) : EW K (tOrV ta tb) δ m Q := fun σ H s M QQ k =>
  h σ H s M _ fun x m1 v1 H1 ⟨b, e, q1⟩ s1 M1 r1 => by
    subst e
    cases r1
    refine ⟨b, rfl, ?_⟩
    cases b with
    | false => exact (show EW K tb δ m1 Q from q1) σ H1 (s.mono s1) M1 QQ fun d m2 v2 H2 q2 s2 M2 r2 => k d m2 v2 H2 q2 (s1.trans s2) M2 r2
    | true => exact k _ m1 _ H1 q1 s1 M1 (.bl true)
theorem ew_notV (h : EW K ta δ m fun x m1 => ∃ b, x = .bl b ∧ Q (.bl (!b)) m1) : EW K (tNotV ta) δ m Q := fun σ H s M QQ k =>
  h σ H s M _ fun x m1 v1 H1 ⟨b, e, q1⟩ s1 M1 r1 => by
    subst e
    cases r1
    exact ⟨b, rfl, k _ m1 _ H1 q1 s1 M1 (.bl _)⟩
theorem ew_chain {r r' : R2} (h : EW K ta δ m fun x m1 => EW K tb δ m1 fun y m2 => OW K r x y m2 fun z m3 => ∃ b, z = .bl b ∧ if b = true then EW K tc δ m3 fun w m4 => OW K r' y w m4 Q else Q (.bl false) m3) : EW K (tChain r r' ta tb tc) δ m Q := fun σ H s M QQ k =>
  h σ H s M _ fun x m1 v1 H1 q1 s1 M1 r1 => q1 σ H1 (s.mono s1) M1 _ fun y m2 v2 H2 q2 s2 M2 r2 => q2 H2 v1 v2 M2 (r1.mono s2) r2 _ fun d m3 v3 H3 ⟨b, e, q3⟩ s3 M3 r3 => by
    subst e
    cases r3
    refine ⟨b, rfl, ?_⟩
    cases b with
    | true => exact (show EW K tc δ m3 _ from q3) σ H3 (s.mono (s1.trans (s2.trans s3))) M3 _ fun w m4 v4 H4 q4 s4 M4 r4 => q4 H4 v2 v4 M4 (r2.mono (s3.trans s4)) r4 _ fun d m5 v5 H5 q5 s5 M5 r5 => k d m5 v5 H5 q5 ((s1.trans (s2.trans s3)).trans (s4.trans s5)) M5 r5
    | false => exact k _ m3 _ H3 q3 (s1.trans (s2.trans s3)) M3 (.bl false)

/-! ### tests -/
theorem tw_test {Q : Bool → Mem → Prop} (h : EW K te δ m fun x m1 => ∃ b, x = .bl b ∧ Q b m1) : TW K (tTest te) δ m Q := fun σ H s M QQ k =>
  h σ H s M _ fun x m1 v1 H1 ⟨b, e, q1⟩ s1 M1 r1 => by
    subst e
    cases r1
    exact ⟨b, rfl, k b m1 H1 q1 s1 M1⟩
theorem tw_B {Q : Bool → Mem → Prop} (h : EW K te δ m fun x m1 => ∃ b, x = .bl b ∧ Q b m1) : TW K (tB te) δ m Q := fun σ H s M QQ k =>
  h σ H s M _ fun x m1 v1 H1 ⟨b, e, q1⟩ s1 M1 r1 => by
    subst e
    cases r1
    exact ⟨b, rfl, k b m1 H1 q1 s1 M1⟩
theorem tw_and {Q : Bool → Mem → Prop} (h : TW K tt δ m fun b m1 => if b = true then TW K tu δ m1 Q else Q false m1) : TW K (tAnd tt tu) δ m Q := fun σ H s M QQ k =>
  h σ H s M _ fun b m1 H1 q1 s1 M1 => by
    cases b with
    | true => exact (show TW K tu δ m1 Q from q1) σ H1 (s.mono s1) M1 QQ fun b m2 H2 q2 s2 M2 => k b m2 H2 q2 (s1.trans s2) M2
    | false => exact k false m1 H1 q1 s1 M1
theorem tw_or {Q : Bool → Mem → Prop} (h : TW K tt δ m fun b m1 => if b = true then Q true m1 else TW K tu δ m1 Q) : TW K (tOr tt tu) δ m Q := fun σ H s M QQ k =>
  h σ H s M _ fun b m1 H1 q1 s1 M1 => by
    cases b with
    | false => exact (show TW K tu δ m1 Q from q1) σ H1 (s.mono s1) M1 QQ fun b m2 H2 q2 s2 M2 => k b m2 H2 q2 (s1.trans s2) M2
    | true => exact k true m1 H1 q1 s1 M1
theorem tw_not {Q : Bool → Mem → Prop} (h : TW K tt δ m fun b m1 => Q (!b) m1) : TW K (tNot tt) δ m Q := fun σ H s M QQ k => h σ H s M _ fun b m1 H1 q1 s1 M1 => k (!b) m1 H1 q1 s1 M1

/-! ### statements -/
theorem sw_seq (h : SW K t δ m { P with nx := fun δ' m' => SW K u δ' m' P }) : SW K (tSeq t u) δ m P := fun σ H s M E k =>
  h σ H s M { E with nx := u E } ⟨fun δ' m' σ' H' q e s' M' => q σ' H' s' M' E (k.mono e), k.rt, k.bk, k.ct⟩
theorem sw_next (q : P.nx δ m) : SW K tNext δ m P := fun σ H s M E k => k.nx δ m σ H q (Sub.refl _) s M
theorem sw_break (q : P.bk δ m) : SW K tBreak δ m P := fun σ H s M E k => k.bk δ m σ H q (Sub.refl _) s M
theorem sw_cont (q : P.ct δ m) : SW K tCont δ m P := fun σ H s M E k => k.ct δ m σ H q (Sub.refl _) s M
theorem sw_drop (h : EW K te δ m fun _ m1 => P.nx δ m1) : SW K (tDrop te) δ m P := fun σ H s M E k => h σ H s M _ fun d m1 v1 H1 q1 s1 M1 r1 => k.nx δ m1 σ H1 q1 s1 (s.mono s1) M1
theorem sw_ret (h : EW K te δ m P.rt) : SW K (tRet te) δ m P := fun σ H s M E k => h σ H s M _ fun d m1 v1 H1 q1 s1 M1 r1 => k.rt d m1 v1 H1 q1 s1 M1 r1
theorem sw_retN (q : P.rt .non m) : SW K tRetN δ m P := fun σ H s M E k => k.rt .non m .non H q (Sub.refl _) M .non
theorem sw_if (h : TW K tt δ m fun b m1 => if b = true then SW K t δ m1 P else SW K u δ m1 P) : SW K (tIfS tt t u) δ m P := fun σ H s M E k =>
  h σ H s M _ fun b m1 H1 q1 s1 M1 => by
    cases b with
    | true => exact (show SW K t δ m1 P from q1) σ H1 (s.mono s1) M1 E (k.mono s1)
    | false => exact (show SW K u δ m1 P from q1) σ H1 (s.mono s1) M1 E (k.mono s1)
theorem sw_asg {i : Nat} (h : EW K te δ m fun d m1 => P.nx (δ.set i (some d)) m1) : SW K (tAsg te (gName i)) δ m P := fun σ H s M E k =>
  h σ H s M _ fun d m1 v1 H1 q1 s1 M1 r1 => k.nx _ m1 _ H1 q1 s1 ((s.mono s1).set i r1) M1
/-- what holds in between is told once -/
theorem sw_mid {P' : Ps} (h : SW K t δ m P') (n : ∀ δ' m', P'.nx δ' m' → P.nx δ' m') (r : ∀ d m', P'.rt d m' → P.rt d m') (b : ∀ δ' m', P'.bk δ' m' → P.bk δ' m') (c : ∀ δ' m', P'.ct δ' m' → P.ct δ' m') : SW K t δ m P := fun σ H s M E k =>
  h σ H s M E ⟨fun δ' m' σ' H' q => k.nx δ' m' σ' H' (n _ _ q), fun δ' m' σ' H' q => k.rt δ' m' σ' H' (r _ _ q), fun δ' m' σ' H' q => k.bk δ' m' σ' H' (b _ _ q), fun δ' m' σ' H' q => k.ct δ' m' σ' H' (c _ _ q)⟩
end
end DL

set_option Elab.async false
set_option linter.all false
set_option maxRecDepth 100000
set_option autoImplicit false
namespace DL
open PySem PySem.Spec PyProof.Rows L2

/-! ### what a def promises, in data -/
abbrev FS := List D → Mem → (D → Mem → Prop) → Prop
def spOf (K : PySem.W.Frag) (Pf : FS) : Sp := fun vs H Q _ => ∃ (ds : List D) (m : Mem) (QS : D → Mem → Prop), RdL K (hide m H) vs ds ∧ MemOk K m H ∧ Pf ds m QS ∧
  ∀ (d : D) (m' : Mem) (v : V) (H' : Hp), QS d m' → Sub (hide m H) (hide m' H') → MemOk K m' H' → Rd K (hide m' H') v d → Q v H'
def startD (n : Nat) (ds : List D) : List (Option D) := ds.map some ++ List.replicate (n - ds.length) none
theorem sl_start {K : PySem.W.Frag} {F : Hp} {N : List Str} {vs : List V} {ds : List D} (r : RdL K F vs ds) : Sl K F (L2.start N vs) (startD N.length ds) := by
  have l := r.length
  refine ⟨by simp [L2.start, startD, l], fun i d e => ?_⟩
  unfold startD at e
  unfold L2.start
  by_cases h : i < ds.length
  · rw [List.getElem?_append_left (by simpa using h), List.getElem?_map] at e
    rw [List.getElem?_append_left (by simpa [l] using h), List.getElem?_map]
    cases q : ds[i]? with
    | none => rw [q] at e; cases e
    | some x =>
      rw [q] at e
      cases e
      obtain ⟨v, a, b⟩ := r.get q
      exact ⟨v, by rw [a] <;> rfl, b⟩
  · rw [List.getElem?_append_right (by simpa using h), List.getElem?_replicate] at e
    split at e <;> cases e
section
variable {P : Program} {w : World} {K : PySem.W.Frag} {mg : Str → Option Value} {base : Heap}
/-- a def of the text as it stands behind the top, whatever its defaults are -/
structure Fnc (K : PySem.W.Frag) (x qual : Str) (st : Stmt) (f : Addr) (fd : FuncData) : Prop where
  is : ∃ (oc : Value) (od : Option Addr) (dV kV dc pm : Value) (an : Option Addr) (cd ct : Value) (sl : Array (Option Value)),
    fd = PySem.W.fnOf x qual (defArgs st) (defBody st) (defScope st) dV kV dc pm an cd ct ∧ PySem.W.codeIn K cd qual = true ∧ K.lookup f = some ⟨oc, od, .func fd, sl⟩
theorem okD {x qual : Str} {st : Stmt} {f : Addr} {fd : FuncData} {N ps : List Str} {k : Nat} {Pf : FS} (F : Fnc K x qual st f fd) (S : FnScope N ps (defScope st)) {t : TS}
    (hlen : ∀ ds m Q, Pf ds m Q → ds.length = ps.length)
    (hd : ∀ (cdv : Value) (A : Around) (outer : List Env) (s : Shared) (H : Hp) (E : XK), Room k (A.deeper (envOfC qual (defScope st) s.heap.objs.size f cdv)) → PSs (cxOf CX0 P w K mg base N qual (defScope st) f cdv A outer s H E).nox (defBody st) t)
    (hs : ∀ ds m (Q : D → Mem → Prop), Pf ds m Q → SW K t (startD N.length ds) m { nx := fun _ m' => Q .non m', rt := Q }) : FnOk P w K mg base CX0 (k + 1) f fd ps (spOf K Pf) := by
  obtain ⟨oc, od, dV, kV, dc, pm, an, cd, ct, sl, rfl, hcd, lk⟩ := F.is
  refine fn_of lk hcd S (fun vs H Q E h => ?_) (fun A outer s H vs Q E hr h => ⟨t, (hd cd A outer s H E hr).nox, ?_⟩)
  · obtain ⟨ds, m, QS, r, _, p, _⟩ := h
    rw [r.length]
    exact hlen _ _ _ p
  · obtain ⟨ds, m, QS, r, M, p, k⟩ := h
    exact hs ds m QS p _ _ (sl_start r) M _ ⟨fun δ' m' σ' H' q e s' M' => k .non m' .non H' q e M' .non, fun d m' v H' q e M' r' => k d m' v H' q e M' r', fun _ _ _ _ q => q.elim, fun _ _ _ _ q => q.elim⟩
end
section
variable {K : PySem.W.Frag} {δ : List (Option D)} {m : Mem} {Q : D → Mem → Prop} {t : TA} {Pf : FS} {E : XK}
theorem ew_call0 (h : AW K t δ m fun ds m1 => Pf ds m1 Q) : EW K (tCall (spOf K Pf) [] E t) δ m Q := fun σ H s M QQ k =>
  h σ H s M _ fun ds m1 vs H1 q1 s1 M1 r1 => ⟨ds, m1, Q, by rw [List.append_nil]; exact r1, M1, q1, fun d m' v H' q e M' r => k d m' v H' q (s1.trans e) M' r⟩
end

/-! ### the same where it is known that no guard is up (repr wants that) -/
structure FnG (P : Program) (w : World) (K : PySem.W.Frag) (mg : Str → Option Value) (base : Heap) (k : Nat) (f : Addr) (fd : FuncData) (ps : List Str) (sp : Sp) : Prop where
  long : ∀ vs H Q E, sp vs H Q E → vs.length = ps.length
  go : ∀ (A : Around) (up : List Env) (s : Shared) (H : Hp) (args : Args) (us : List Value) (vs : List V) (Q : VK), A.guards = some [] → Room k A → Env0 P w K mg base A up s H → BindsTo s fd args (ps.zip us) → Vals vs us → sp vs H Q E0 →
    codeAny (model P w) A (.call (.ref f) args) (CR CX0 up P w H s Q E0) s
section
variable {P : Program} {w : World} {K : PySem.W.Frag} {mg : Str → Option Value} {base : Heap} {f : Addr} {fd : FuncData} {ps : List Str} {sp : Sp} {k : Nat}
theorem FnG.of (F : FnOk P w K mg base CX0 k f fd ps sp) : FnG P w K mg base k f fd ps sp := ⟨F.len, fun A up s H args us vs Q _ hr => F.run A up s H args us vs Q E0 hr⟩
theorem FnG.up {j : Nat} (F : FnG P w K mg base j f fd ps sp) (h : j ≤ k) : FnG P w K mg base k f fd ps sp := ⟨F.long, fun A up s H args us vs Q hg hr => F.go A up s H args us vs Q hg (hr.mono h)⟩
/-- a def, by its body, entered where no guard is up -/
theorem fn_inG {name qual : Str} {params : Arguments} {body : List Stmt} {scope : Scope} {dV kV doc pm cdv ct oc : Value} {an od : Option Addr} {osl : Array (Option Value)} {N : List Str}
    (lk : K.lookup f = some ⟨oc, od, .func (PySem.W.fnOf name qual params body scope dV kV doc pm an cdv ct), osl⟩) (hcd : PySem.W.codeIn K cdv qual = true) (S : FnScope N ps scope) (long : ∀ vs H Q E, sp vs H Q E → vs.length = ps.length)
    (hb : ∀ (A : Around) (up : List Env) (s : Shared) (H : Hp) (vs : List V) (Q : VK), A.guards = some [] → Room k (A.deeper (envOfC qual scope s.heap.objs.size f cdv)) → sp vs H Q E0 →
      ∃ t, PSs (cxOf CX0 P w K mg base N qual scope f cdv A up s H E0) body t ∧ t { nx := fun _ H' => Q .non H', rt := Q } (L2.start N vs) H) :
    FnG P w K mg base (k + 1) f (PySem.W.fnOf name qual params body scope dV kV doc pm an cdv ct) ps sp := by
  refine ⟨long, ?_⟩
  intro A up s H args us vs Q hg room e0 bind rel wish
  have n1 := long vs H Q E0 wish
  have kin : K.In s.heap := e0.mod.kin.keeps fun b o q => (e0.bs b o q).1
  have hlim : s.heap.NoLimit := e0.mod.nolimit.keeps fun b o q => (e0.bs b o q).1
  have kinds : ∀ y ∈ ps.zip us, scope.names.lookup y.1 = some .local ∨ (scope.names.lookup y.1 = some .cell ∧ ((cellsFrom (s.heap.objs.size + 1) scope.names []).lookup y.1).isSome = true) := by
    rintro ⟨n, v⟩ hy
    cases S.par n (List.of_mem_zip hy).1 with
    | inl a => exact Or.inl a
    | inr a => exact Or.inr ⟨a, PySem.W.cellsFrom_some _ _ _ (Or.inl a)⟩
  have enter := hb A up s H vs Q hg (room.deeper _) wish
  obtain ⟨t, der, rdg⟩ := enter
  apply codeAny_call_function room.depth (kin _ _ lk) rfl S.co S.gen rfl (PySem.W.codeRec_of kin hcd)
  apply bind
  apply wpAny_newFunctionEnv_cells S.kind kinds
  intro env he s1 x
  cases he
  refine ⟨hlim.keeps x.toInCall.keep, ?_⟩
  apply codeAny_func
  have inv : Inv (cxOf CX0 P w K mg base N qual scope f cdv A up s H E0) [] (L2.start N vs) H s1 := inv_start S room.hd e0 n1 rel x
  apply wpAny_mono (der.run [] s1 (L2.start N vs) H _ inv rdg)
  · intro fl s2 q
    have close : ∀ (σ2 : L2.St) (H2 : Hp) (v : V) (u : Value), Inv (cxOf CX0 P w K mg base N qual scope f cdv A up s H E0) [] σ2 H2 s2 → RelV v u → Q v H2 → CE up P w H s Q u s2 := fun σ2 H2 v u J a b => ⟨v, H2, J.os, J.bare, J.base, J.hok, a, b⟩
    match fl, q with
    | .ret u, ⟨v, σ2, H2, J, a, b⟩ => exact close σ2 H2 v u J a b
    | .next, ⟨σ2, H2, J, b⟩ => exact close σ2 H2 V.non Value.none J rfl b
    | .brk, ⟨_, _, _, b⟩ => exact b.elim
    | .cont, ⟨_, _, _, b⟩ => exact b.elim
  · intro e s2 q
    exact q
theorem okG {x qual : Str} {st : Stmt} {N : List Str} {Pf : FS} (F : Fnc K x qual st f fd) (S : FnScope N ps (defScope st)) {t : TS}
    (hlen : ∀ ds m Q, Pf ds m Q → ds.length = ps.length)
    (hd : ∀ (cdv : Value) (A : Around) (outer : List Env) (s : Shared) (H : Hp), A.guards = some [] → Room k (A.deeper (envOfC qual (defScope st) s.heap.objs.size f cdv)) → PSs (cxOf CX0 P w K mg base N qual (defScope st) f cdv A outer s H E0).nox (defBody st) t)
    (hs : ∀ ds m (Q : D → Mem → Prop), Pf ds m Q → SW K t (startD N.length ds) m { nx := fun _ m' => Q .non m', rt := Q }) : FnG P w K mg base (k + 1) f fd ps (spOf K Pf) := by
  obtain ⟨oc, od, dV, kV, dc, pm, an, cd, ct, sl, rfl, hcd, lk⟩ := F.is
  refine fn_inG lk hcd S (fun vs H Q E h => ?_) (fun A outer s H vs Q hg hr h => ⟨t, (hd cd A outer s H hg hr).nox, ?_⟩)
  · obtain ⟨ds, m, QS, r, _, p, _⟩ := h
    rw [r.length]
    exact hlen _ _ _ p
  · obtain ⟨ds, m, QS, r, M, p, k⟩ := h
    exact hs ds m QS p _ _ (sl_start r) M _ ⟨fun δ' m' σ' H' q e s' M' => k .non m' .non H' q e M' .non, fun d m' v H' q e M' r' => k d m' v H' q e M' r', fun _ _ _ _ q => q.elim, fun _ _ _ _ q => q.elim⟩
end
section
variable {X : Cx} {k : Nat} {f : Addr} {fd : FuncData} {ps : List Str} {sp : Sp} {dvs : List V} {ds : List Value} {x : Str} {p pos : Pos} {e : Expr} {es : List Expr} {t : TA}
theorem pe_callG (hg0 : X.A.guards = some []) (F : FnG X.prog X.w X.K X.mg X.base k f fd ps sp) (hr : Room k X.A) (hg : Gl X x) (hm : X.mg x = some (.ref f)) (hk : PySem.W.keepIn X.K (.ref f) = true) (hb : Binds X.K fd ps ds) (hd : Vals dvs ds)
    (ha : PA X (e :: es) t) (hdb : (x == ("__debug__" : Str)) = false := by decide) (he : starEach (e :: es) X.env = (false, eval e X.env) :: starEach es X.env := by rfl) (hpl : (backTo pos (starEach es X.env)).any (·.1) = false := by rfl) :
    PE X (.Call (.Name x p) (e :: es) [] pos) (tCall sp dvs E0 t) := by
  constructor
  intro pins s σ H Q I h
  apply wpAny_Call_Name_kw
  refine ld_glob I hg hm ?_ hdb
  apply PySem.W.callWith_K (h₀ := X.base) I.ok.mod.kin hk _ he hpl
  refine thn (ha.run pos pins s σ H _ I h) ?_
  rintro us s1 ⟨vs, H1, I1, r, q⟩
  refine ⟨I1.kIn, ?_⟩
  have rr : Vals (vs ++ dvs) (us ++ ds) := r.append hd
  have hl : (us ++ ds).length = ps.length := rr.length.symm.trans (F.long _ _ _ _ q)
  apply wpAny_call
  refine codeAny_mono (F.go X.A X.stack s1 H1 ⟨us, []⟩ (us ++ ds) (vs ++ dvs) Q hg0 hr I1.env0 (hb s1 us I1.kIn hl) rr q) ?_
  intro res s2 c
  match res, c with
  | .error _, c => exact c.elim
  | .ok (.ret u), c => exact I1.after c
  | .ok .next, c => exact c.elim
  | .ok .brk, c => exact c.elim
  | .ok .cont, c => exact c.elim
end
end DL

set_option Elab.async false
set_option linter.all false
set_option maxRecDepth 100000
set_option maxHeartbeats 1000000
set_option autoImplicit false
namespace DL
open PySem PySem.Spec PyProof.Rows L2

/-! ### data that may be compared and shown -/
def D.fl : Nat → D → Bool
  | _, .non => true
  | _, .bl _ => true
  | _, .int _ => true
  | _, .str x => PyData.strOk x
  | n + 1, .lst xs => xs.all (D.fl n)
  | n + 1, .tup xs => xs.all (D.fl n)
  | _, _ => false
mutual
def D.py : D → PyData
  | .non => .none
  | .bl b => .bool b
  | .int i => .int i
  | .str x => .str x
  | .lst xs => .list (D.pyL xs)
  | .tup xs => .tuple (D.pyL xs)
  | .dic kvs => .dict (D.pyK kvs)
  | _ => .none
def D.pyL : List D → List PyData
  | [] => []
  | x :: xs => D.py x :: D.pyL xs
def D.pyK : List (Key × D) → List (PyData × PyData)
  | [] => []
  | (k, x) :: xs => ((match k with | .inl i => PyData.int i | .inr s => PyData.str s), D.py x) :: D.pyK xs
end
theorem pyL_map : ∀ xs : List D, D.pyL xs = xs.map D.py
  | [] => rfl
  | x :: xs => by rw [D.pyL, List.map_cons, pyL_map xs]
section
variable {K : PySem.W.Frag} {F : Hp}
theorem Rd.dp : ∀ (n : Nat) (d : D) (v : V), d.fl n = true → Rd K F v d → Dp K F v d.py := by
  intro n
  induction n with
  | zero =>
    intro d v h r
    cases r with
    | non => exact .non
    | bl b => exact .bl b
    | int i => exact .int i
    | str x => exact .str x
    | _ => simp [D.fl] at h
  | succ n ih =>
    have all : ∀ (ds : List D) (vs : List V), ds.all (D.fl n) = true → RdL K F vs ds → DpAll K F vs (D.pyL ds) := by
      intro ds
      induction ds with
      | nil => intro vs _ r; cases r; exact .nil
      | cons d ds ihl =>
        intro vs h r
        cases r with
        | cons r1 r2 =>
          rw [List.all_cons, Bool.and_eq_true] at h
          exact .cons (ih d _ h.1 r1) (ihl _ h.2 r2)
    intro d v h r
    cases r with
    | non => exact .non
    | bl b => exact .bl b
    | int i => exact .int i
    | str x => exact .str x
    | lst e r => exact .lst (SqL.of e) (all _ _ h r)
    | tup e r => exact .tup e (all _ _ h r)
    | _ => simp [D.fl] at h
end
theorem fl_shaped : ∀ (n : Nat) (d : D), d.fl n = true → d.py.canLay0 = true ∧ d.py.depth ≤ n := by
  intro n
  induction n with
  | zero => intro d h; cases d <;> simp_all [D.fl, D.py, PyData.canLay0, PyData.depth]
  | succ n ih =>
    have all : ∀ ds : List D, ds.all (D.fl n) = true → PyData.canLayAll0 (D.pyL ds) = true ∧ PyData.depthAll (D.pyL ds) ≤ n := by
      intro ds
      induction ds with
      | nil => intro _; simp [D.pyL, PyData.canLayAll0, PyData.depthAll]
      | cons d ds ihl =>
        intro h
        rw [List.all_cons, Bool.and_eq_true] at h
        have a := ih d h.1
        have b := ihl h.2
        simp only [D.pyL, PyData.canLayAll0, PyData.depthAll, Bool.and_eq_true]
        exact ⟨⟨a.1, b.1⟩, by omega⟩
    intro d h
    cases d with
    | lst xs =>
      have := all xs h
      simp only [D.py, PyData.canLay0, PyData.depth]
      exact ⟨this.1, by omega⟩
    | tup xs =>
      have := all xs h
      simp only [D.py, PyData.canLay0, PyData.depth]
      exact ⟨this.1, by omega⟩
    | _ => simp_all [D.fl, D.py, PyData.canLay0, PyData.depth]
theorem fl_ok {n : Nat} {d : D} (h : d.fl n = true) (hn : n ≤ 64) : SeqAt.shaped d.py = true := by
  have := fl_shaped n d h
  show (d.py.canLay0 && decide (d.py.depth ≤ 64)) = true
  rw [this.1, decide_eq_true (by omega)]
  rfl
section
variable {K : PySem.W.Frag} {δ : List (Option D)} {m : Mem} {Q : D → Mem → Prop} {te ta tb tc : TE}
theorem Rd.top {H : Hp} {v : V} {d : D} (r : Rd K (hide m H) v d) : Rd K H v d := r.mono hide_le
/-! ### operations whose answer is a plain value -/
theorem ow_or1 {r r' : R2} {x y : D} (h : OW K r x y m Q) : OW K (fun x y H Q => r x y H Q ∨ r' x y H Q) x y m Q := fun H v w M a b QQ k => .inl (h H v w M a b QQ k)
theorem ow_or2 {r r' : R2} {x y : D} (h : OW K r' x y m Q) : OW K (fun x y H Q => r x y H Q ∨ r' x y H Q) x y m Q := fun H v w M a b QQ k => .inr (h H v w M a b QQ k)
theorem cw_or1 {r r' : List V → Hp → VK → Prop} {xs : List D} (h : CW K r xs m Q) : CW K (fun x H Q => r x H Q ∨ r' x H Q) xs m Q := fun H v M a QQ k => .inl (h H v M a QQ k)
theorem ow_i0 {g : Int → Int → Int} {i j : Int} (q : Q (.int (g i j)) m) : OW K (rI0 fun i j => V.int (g i j)) (.int i) (.int j) m Q := fun H v w M a b QQ k => by
  cases a; cases b
  exact ⟨i, j, rfl, rfl, k _ m _ H q (Sub.refl _) M (.int _)⟩
theorem ow_b0 {g : Int → Int → Bool} {i j : Int} (q : Q (.bl (g i j)) m) : OW K (rI0 fun i j => V.bl (g i j)) (.int i) (.int j) m Q := fun H v w M a b QQ k => by
  cases a; cases b
  exact ⟨i, j, rfl, rfl, k _ m _ H q (Sub.refl _) M (.bl _)⟩
theorem ow_ic {C : Int → Int → Prop} {g : Int → Int → Int} {i j : Int} (c : C i j) (q : Q (.int (g i j)) m) : OW K (rI C fun i j => V.int (g i j)) (.int i) (.int j) m Q := fun H v w M a b QQ k => by
  cases a; cases b
  exact ⟨i, j, rfl, rfl, c, k _ m _ H q (Sub.refl _) M (.int _)⟩
theorem uw_neg {i : Int} (q : Q (.int (-i)) m) : UW K (rU fun i => V.int (-i)) (.int i) m Q := fun H v M a QQ k => by
  cases a
  exact ⟨i, rfl, k _ m _ H q (Sub.refl _) M (.int _)⟩
def rAddS : R2 := fun x y H Q => ∃ i j, x = .str i ∧ y = .str j ∧ i.length + j.length ≤ sizeLine ∧ Q (.str (i ++ j)) H
def rAddU : R2 := fun x y H Q => rI0 (fun i j => .int (i + j)) x y H Q ∨ (rAddS x y H Q ∨ rCat x y H Q)
theorem op_addU {X : Cx} : OpR X (binaryOp .Add) rAddU := OpR.or op_add (OpR.or op_add_str op_cat)
theorem ow_addI {i j : Int} (q : Q (.int (i + j)) m) : OW K rAddU (.int i) (.int j) m Q := ow_or1 (ow_i0 (g := fun i j => i + j) q)
theorem ow_addS {i j : Str} (h : i.length + j.length ≤ sizeLine) (q : Q (.str (i ++ j)) m) : OW K rAddU (.str i) (.str j) m Q := fun H v w M a b QQ k => by
  cases a; cases b
  exact .inr (.inl ⟨i, j, rfl, rfl, h, k _ m _ H q (Sub.refl _) M (.str _)⟩)
theorem new_lst {H : Hp} {p : Addr} {vs : List V} {ds : List D} (M : MemOk K m H) (r : RdL K (hide m H) vs ds) (hp : H p = none) : MemOk K m (upd H p (.lst vs)) ∧ Sub (hide m H) (hide m (upd H p (.lst vs))) ∧ Rd K (hide m (upd H p (.lst vs))) (.ref p) (.lst ds) := by
  obtain ⟨M2, s2⟩ := M.new (o := .lst vs) hp
  refine ⟨M2, s2, .lst ?_ (r.mono s2)⟩
  rw [hide_new M hp]
  exact upd_same
theorem new_lstM {H : Hp} {p : Addr} {vs : List V} {ds : List D} (M : MemOk K m H) (r : RdL K (hide m H) vs ds) (hp : H p = none) : MemOk K (m ++ [(p, .lst ds)]) (upd H p (.lst vs)) ∧ Sub (hide m H) (hide (m ++ [(p, .lst ds)]) (upd H p (.lst vs))) := by
  have e : hide (m ++ [(p, Cell.lst ds)]) (upd H p (.lst vs)) = hide m H := hide_cell hp
  exact ⟨M.cell (c := .lst ds) hp ⟨vs, upd_same, r⟩, by rw [e]; exact Sub.refl _⟩
theorem new_tup {H : Hp} {p : Addr} {vs : List V} {ds : List D} (M : MemOk K m H) (r : RdL K (hide m H) vs ds) (hp : H p = none) : MemOk K m (upd H p (.tup vs)) ∧ Sub (hide m H) (hide m (upd H p (.tup vs))) ∧ Rd K (hide m (upd H p (.tup vs))) (.ref p) (.tup ds) := by
  obtain ⟨M2, s2⟩ := M.new (o := .tup vs) hp
  refine ⟨M2, s2, .tup ?_ (r.mono s2)⟩
  rw [hide_new M hp]
  exact .inl (.inl upd_same)
theorem lst_at {H : Hp} {v : V} {ds : List D} (r : Rd K (hide m H) v (.lst ds)) : ∃ (a : Addr) (xs : List V), v = .ref a ∧ H a = some (.lst xs) ∧ RdL K (hide m H) xs ds := by
  cases r with
  | lst e r => exact ⟨_, _, rfl, hide_le _ _ e, r⟩
theorem tup_at {H : Hp} {v : V} {ds : List D} (r : Rd K (hide m H) v (.tup ds)) : ∃ (a : Addr) (xs : List V), v = .ref a ∧ SqT K H a xs ∧ RdL K (hide m H) xs ds := by
  cases r with
  | tup e r => exact ⟨_, _, rfl, hide_le.sqt e, r⟩
theorem cell_at {H : Hp} {i : Nat} {p : Addr} {ds : List D} (M : MemOk K m H) (h : m[i]? = some (p, .lst ds)) : ∃ xs : List V, H p = some (.lst xs) ∧ RdL K (hide m H) xs ds := M.get h
theorem ow_addL {xs ys : List D} (h : xs.length + ys.length ≤ sizeLine) (q : Q (.lst (xs ++ ys)) m) : OW K rAddU (.lst xs) (.lst ys) m Q := fun H v w M a b QQ k => by
  obtain ⟨p, vs, rfl, e1, r1⟩ := lst_at a
  obtain ⟨p', ws, rfl, e2, r2⟩ := lst_at b
  refine .inr (.inr ⟨p, p', vs, ws, rfl, rfl, e1, e2, by rw [r1.length, r2.length]; exact h, fun z hz => ?_⟩)
  obtain ⟨M2, s2, r3⟩ := new_lst M (r1.append r2) hz
  exact k _ m _ _ q s2 M2 r3
/-! ### == and != of data -/
theorem ow_eq {n : Nat} {x y : D} (hn : n ≤ 64) (hx : x.fl n = true) (hy : y.fl n = true) (q : Q (.bl (PyData.eqv x.py y.py)) m) : OW K (rEqD K) x y m Q := fun H v w M a b QQ k =>
  ⟨x.py, y.py, Rd.dp n x v hx a.top, Rd.dp n y w hy b.top, fl_ok hx hn, fl_ok hy hn, k _ m _ H q (Sub.refl _) M (.bl _)⟩
theorem ow_ne {n : Nat} {x y : D} (hn : n ≤ 64) (hx : x.fl n = true) (hy : y.fl n = true) (q : Q (.bl (!PyData.eqv x.py y.py)) m) : OW K (rNeD K) x y m Q := fun H v w M a b QQ k =>
  ⟨x.py, y.py, Rd.dp n x v hx a.top, Rd.dp n y w hy b.top, fl_ok hx hn, fl_ok hy hn, k _ m _ H q (Sub.refl _) M (.bl _)⟩
theorem ow_eqI {i j : Int} (q : Q (.bl (decide (i = j))) m) : OW K (rEqD K) (.int i) (.int j) m Q := ow_eq (n := 0) (by decide) rfl rfl (by
  have : PyData.eqv (D.int i).py (D.int j).py = decide (i = j) := by simp only [D.py, PyData.eqv]; rfl
  rw [this]; exact q)
theorem ow_neI {i j : Int} (q : Q (.bl (!decide (i = j))) m) : OW K (rNeD K) (.int i) (.int j) m Q := ow_ne (n := 0) (by decide) rfl rfl (by
  have : PyData.eqv (D.int i).py (D.int j).py = decide (i = j) := by simp only [D.py, PyData.eqv]; rfl
  rw [this]; exact q)
/-- is None -/
def D.isNon : D → Bool
  | .non => true
  | _ => false
theorem isNon_v {F : Hp} {v : V} {d : D} (r : Rd K F v d) : decide (v = .non) = d.isNon := by cases r <;> rfl
def rIsN1 : R2 := fun x y H Q => y = .non ∧ Q (.bl (decide (x = .non))) H
def rNotN1 : R2 := fun x y H Q => y = .non ∧ Q (.bl (!decide (x = .non))) H
theorem op_isN2 {X : Cx} : OpR X (compareOp .Is) rIsN1 := op_isN
theorem op_notN2 {X : Cx} : OpR X (compareOp .IsNot) rNotN1 := op_notN
theorem ow_isN {x : D} (q : Q (.bl x.isNon) m) : OW K rIsN1 x .non m Q := fun H v w M a b QQ k => by
  cases b
  exact ⟨rfl, k _ m _ H q (Sub.refl _) M (by rw [isNon_v a]; exact .bl _)⟩
theorem ow_notN {x : D} (q : Q (.bl (!x.isNon)) m) : OW K rNotN1 x .non m Q := fun H v w M a b QQ k => by
  cases b
  exact ⟨rfl, k _ m _ H q (Sub.refl _) M (by rw [isNon_v a]; exact .bl _)⟩
end
end DL

set_option Elab.async false
set_option linter.all false
set_option maxRecDepth 100000
set_option maxHeartbeats 1000000
set_option autoImplicit false
namespace DL
open PySem PySem.Spec PyProof.Rows L2
section
variable {K : PySem.W.Frag} {δ : List (Option D)} {m : Mem} {Q : D → Mem → Prop} {te ta tb tc : TE} {F : Hp}
theorem RdL.atI {vs : List V} {ds : List D} {i : Int} {d : D} (r : RdL K F vs ds) (h : L2.atI ds i = some d) : ∃ v, L2.atI vs i = some v ∧ Rd K F v d := by
  unfold L2.atI at h ⊢
  rw [r.length]
  cases q : ixN ds.length i with
  | none => rw [q] at h; cases h
  | some j =>
    rw [q] at h
    obtain ⟨v, a, b⟩ := r.get (show ds[j]? = some d from h)
    exact ⟨v, a, b⟩
theorem atI_lt {α : Type} {xs : List α} {i : Int} {x : α} (h0 : 0 ≤ i) (h : xs[i.toNat]? = some x) : L2.atI xs i = some x := by
  have e : ((i.toNat : Nat) : Int) = i := by omega
  rw [← e]
  exact atI_nat h
def cutD (ds : List D) (lo hi : Option Int) : List D := (ds.drop (HT.sIx ds.length 0 lo)).take (HT.sIx ds.length ds.length hi - HT.sIx ds.length 0 lo)
theorem RdL.cut {vs : List V} {ds : List D} (lo hi : Option Int) (r : RdL K F vs ds) : RdL K F (cutV vs lo hi) (cutD ds lo hi) := by
  unfold cutV cutD
  rw [r.length]
  exact (r.drop _).take _
/-! ### subscripts: list, tuple, text by a number; dict by a key -/
def rIxDc : R2 := fun x y H Q => ∃ (a : Addr) (z : V), x = .ref a ∧ DGet H a y (some z) ∧ Q z H
theorem ix_dct {X : Cx} (hu : X.A.units + 64 < cLine) : IxR X rIxDc := by
  intro value slice pins s σ H x y v u Q I rx ry h hs
  obtain ⟨a, z, rfl, g, q⟩ := h
  cases rx
  refine tail_any (dict_typeIs I g) PySem.F.slot_dict_getitem.lookup ?_ hs
  exact d_getItem (by omega) I g ry fun w' s3 I3 rw' => ⟨z, H, I3, rw', q⟩
def rIxU (K : PySem.W.Frag) : R2 := fun x y H Q => rIxL K x y H Q ∨ (rIxT K x y H Q ∨ (rIxS x y H Q ∨ rIxDc x y H Q))
theorem ix_U {X : Cx} (hu : X.A.units + 64 < cLine) : IxR X (rIxU X.K) := IxR.or ix_list (IxR.or ix_tup (IxR.or ix_str (ix_dct hu)))
theorem ow_ixL {ds : List D} {i : Int} {d : D} (h : L2.atI ds i = some d) (q : Q d m) : OW K (rIxU K) (.lst ds) (.int i) m Q := fun H v w M a b QQ k => by
  obtain ⟨p, vs, rfl, e, r⟩ := lst_at a
  cases b
  obtain ⟨z, h1, h2⟩ := r.atI h
  exact .inl ⟨p, vs, i, z, rfl, rfl, SqL.of e, h1, k d m z H q (Sub.refl _) M h2⟩
theorem ow_ixM {j : Nat} {p : Addr} {ds : List D} {i : Int} {d : D} (hm : m[j]? = some (p, .lst ds)) (h : L2.atI ds i = some d) (q : Q d m) : OW K (rIxU K) (.adr p) (.int i) m Q := fun H v w M a b QQ k => by
  obtain ⟨vs, e, r⟩ := cell_at M hm
  cases a
  cases b
  obtain ⟨z, h1, h2⟩ := r.atI h
  exact .inl ⟨p, vs, i, z, rfl, rfl, SqL.of e, h1, k d m z H q (Sub.refl _) M h2⟩
theorem ow_ixR {ns : List Int} {i : Int} {n : Int} (h : L2.atI ns i = some n) (q : Q (.int n) m) : OW K (rIxU K) (.scr ns) (.int i) m Q := fun H v w M a b QQ k => by
  cases a with
  | scr e =>
    cases b
    refine .inl ⟨_, _, i, .int n, rfl, rfl, hide_le.sql e, ?_, k _ m _ H q (Sub.refl _) M (.int n)⟩
    unfold L2.atI at h ⊢
    rw [List.length_map]
    cases z : ixN ns.length i with
    | none => rw [z] at h; cases h
    | some j =>
      rw [z] at h
      have h' : ns[j]? = some n := h
      show (ns.map V.int)[j]? = some (V.int n)
      rw [List.getElem?_map, h']
      rfl
theorem ow_ixT {ds : List D} {i : Int} {d : D} (h : L2.atI ds i = some d) (q : Q d m) : OW K (rIxU K) (.tup ds) (.int i) m Q := fun H v w M a b QQ k => by
  obtain ⟨p, vs, rfl, e, r⟩ := tup_at a
  cases b
  obtain ⟨z, h1, h2⟩ := r.atI h
  exact .inr (.inl ⟨p, vs, i, z, rfl, rfl, e, h1, k d m z H q (Sub.refl _) M h2⟩)
theorem ow_ixS {x : Str} {i : Int} {c : Nat} (hz : x.length ≤ sizeLine) (h : L2.atI x.cps.toList i = some c) (q : Q (.str ⟨#[c]⟩) m) : OW K (rIxU K) (.str x) (.int i) m Q := fun H v w M a b QQ k => by
  cases a
  cases b
  exact .inr (.inr (.inl ⟨x, i, c, rfl, rfl, hz, h, k _ m _ H q (Sub.refl _) M (.str _)⟩))
/-- what a dict of data tells of a key -/
def valD (kvs : List (Key × D)) (k : Key) : Option D := (kvs.find? fun kv => decide (kv.1 = k)).map (·.2)
theorem RdL.valV : ∀ {vs : List (Key × V)} {ds : List (Key × D)} (k : Key), vs.map Prod.fst = ds.map Prod.fst → RdL K F (vs.map Prod.snd) (ds.map Prod.snd) → (∀ d, valD ds k = some d → ∃ v, L2.valV vs k = some v ∧ Rd K F v d) ∧ (valD ds k = none → L2.valV vs k = none)
  | [], [], _, _, _ => ⟨fun d h => by simp [valD] at h, fun _ => rfl⟩
  | [], _ :: _, _, h, _ => by simp at h
  | _ :: _, [], _, h, _ => by simp at h
  | (k1, v1) :: vs, (k2, d2) :: ds, k, h, r => by
    simp only [List.map_cons, List.cons.injEq] at h
    obtain ⟨h1, h2⟩ := h
    subst h1
    cases r with
    | cons r1 r2 =>
      have ih := RdL.valV k h2 r2
      by_cases e : k1 = k
      · subst e
        refine ⟨fun d hd => ⟨v1, valV_pos rfl, ?_⟩, fun hn => ?_⟩
        · simp [valD] at hd; subst hd; exact r1
        · simp [valD] at hn
      · have e1 : L2.valV ((k1, v1) :: vs) k = L2.valV vs k := valV_neg e
        have e2 : valD ((k1, d2) :: ds) k = valD ds k := by simp [valD, List.find?_cons, e]
        rw [e1, e2]
        exact ih
def kD : Key → D
  | .inl i => .int i
  | .inr x => .str x
theorem kD_v {v : V} {k : Key} (r : Rd K F v (kD k)) : v = kV k := by
  cases k <;> (cases r; rfl)
theorem dic_at {H : Hp} {v : V} {ds : List (Key × D)} (r : Rd K (hide m H) v (.dic ds)) : ∃ (a : Addr) (xs : List (Key × V)), v = .ref a ∧ H a = some (.dK xs) ∧ xs.map Prod.fst = ds.map Prod.fst ∧ RdL K (hide m H) (xs.map Prod.snd) (ds.map Prod.snd) := by
  cases r with
  | dic e n r => exact ⟨_, _, rfl, hide_le _ _ e, n, r⟩
theorem ow_ixD {kvs : List (Key × D)} {k : Key} {d : D} (h : valD kvs k = some d) (q : Q d m) : OW K (rIxU K) (.dic kvs) (kD k) m Q := fun H v w M a b QQ kk => by
  obtain ⟨p, xs, rfl, e, n, r⟩ := dic_at a
  obtain ⟨z, h1, h2⟩ := (RdL.valV k n r).1 d h
  have eb := kD_v b
  subst eb
  refine .inr (.inr (.inr ⟨p, z, rfl, ?_, kk d m z H q (Sub.refl _) M h2⟩))
  rw [← h1]
  exact DGet.k e
theorem ow_ixDi {kvs : List (Key × D)} {x : Int} {d : D} (h : valD kvs (.inl x) = some d) (q : Q d m) : OW K (rIxU K) (.dic kvs) (.int x) m Q := ow_ixD (k := .inl x) h q
/-! ### slices -/
def rSlU (K : PySem.W.Frag) : V → Option Int → Option Int → Hp → VK → Prop := fun x lo hi H Q => rSlL K x lo hi H Q ∨ rSlS x lo hi H Q
theorem sl_U {X : Cx} : SlR X (rSlU X.K) := SlR.or sl_list sl_str
def PW (to : TO) (δ : List (Option D)) (m : Mem) (Q : Option Int → Mem → Prop) : Prop := ∀ (σ : L2.St) (H : Hp), Sl K (hide m H) σ δ → MemOk K m H → ∀ QQ : Option Int → Hp → Prop,
  (∀ (o : Option Int) (m' : Mem) (H' : Hp), Q o m' → Sub (hide m H) (hide m' H') → MemOk K m' H' → QQ o H') → to σ H QQ
theorem pw_no {Q : Option Int → Mem → Prop} (q : Q none m) : PW (K := K) tNoPart δ m Q := fun σ H s M QQ k => k none m H q (Sub.refl _) M
theorem pw_part {Q : Option Int → Mem → Prop} (h : EW K te δ m fun x m1 => ∃ i, x = .int i ∧ Q (some i) m1) : PW (K := K) (tPart te) δ m Q := fun σ H s M QQ k =>
  h σ H s M _ fun x m1 v H1 ⟨i, e, q⟩ s1 M1 r => by
    subst e
    cases r
    exact ⟨i, rfl, k (some i) m1 H1 q s1 M1⟩
/-- a slice by values -/
def LW (r : V → Option Int → Option Int → Hp → VK → Prop) (x : D) (lo hi : Option Int) (m : Mem) (Q : D → Mem → Prop) : Prop := ∀ (H : Hp) (v : V), MemOk K m H → Rd K (hide m H) v x → ∀ QQ : VK,
  (∀ (d : D) (m' : Mem) (u : V) (H' : Hp), Q d m' → Sub (hide m H) (hide m' H') → MemOk K m' H' → Rd K (hide m' H') u d → QQ u H') → r v lo hi H QQ
theorem ew_sl {r : V → Option Int → Option Int → Hp → VK → Prop} {tl th : TO} (h : EW K te δ m fun x m1 => PW (K := K) tl δ m1 fun lo m2 => PW (K := K) th δ m2 fun hi m3 => LW (K := K) r x lo hi m3 Q) : EW K (tSl r te tl th) δ m Q := fun σ H s M QQ k =>
  h σ H s M _ fun x m1 v1 H1 q1 s1 M1 r1 => q1 σ H1 (s.mono s1) M1 _ fun lo m2 H2 q2 s2 M2 => q2 σ H2 (s.mono (s1.trans s2)) M2 _ fun hi m3 H3 q3 s3 M3 => q3 H3 v1 M3 (r1.mono (s2.trans s3)) _ fun d m4 u H4 q4 s4 M4 r4 => k d m4 u H4 q4 (((s1.trans s2).trans s3).trans s4) M4 r4
theorem lw_L {ds : List D} {lo hi : Option Int} (q : Q (.lst (cutD ds lo hi)) m) : LW (K := K) (rSlU K) (.lst ds) lo hi m Q := fun H v M a QQ k => by
  obtain ⟨p, vs, rfl, e, r⟩ := lst_at a
  refine .inl ⟨p, vs, rfl, SqL.of e, fun z hz => ?_⟩
  obtain ⟨M2, s2, r3⟩ := new_lst M (r.cut lo hi) hz
  exact k _ m _ _ q s2 M2 r3
theorem lw_S {x : Str} {lo hi : Option Int} (hz : x.length ≤ sizeLine) (q : Q (.str (cutS x lo hi)) m) : LW (K := K) (rSlU K) (.str x) lo hi m Q := fun H v M a QQ k => by
  cases a
  exact .inr ⟨x, rfl, hz, k _ m _ H q (Sub.refl _) M (.str _)⟩
/-! ### built-in functions -/
def rLenU (K : PySem.W.Frag) : List V → Hp → VK → Prop := fun xs H Q => (∃ x n, xs = [x] ∧ LenV K x H n ∧ Q (.int n) H) ∨ (∃ a kvs, xs = [V.ref a] ∧ H a = some (.dK kvs) ∧ Q (.int kvs.length) H)
theorem cr_lenU {X : Cx} : CallR X (.builtin "len") (rLenU X.K) := CallR.or call_len call_lenD
theorem cw_lenL {ds : List D} (q : Q (.int (ds.length : Nat)) m) : CW K (rLenU K) [.lst ds] m Q := fun H vs M a QQ k => by
  cases a with
  | cons a n =>
    cases n
    obtain ⟨p, xs, rfl, e, r⟩ := lst_at a
    exact .inl ⟨_, xs.length, rfl, .inl ⟨xs, SqL.of e, rfl⟩, k _ m _ H q (Sub.refl _) M (by rw [r.length]; exact .int _)⟩
theorem cw_lenM {j : Nat} {p : Addr} {ds : List D} (hm : m[j]? = some (p, .lst ds)) (q : Q (.int (ds.length : Nat)) m) : CW K (rLenU K) [.adr p] m Q := fun H vs M a QQ k => by
  cases a with
  | cons a n =>
    cases n
    cases a
    obtain ⟨xs, e, r⟩ := cell_at M hm
    exact .inl ⟨_, xs.length, rfl, .inl ⟨xs, SqL.of e, rfl⟩, k _ m _ H q (Sub.refl _) M (by rw [r.length]; exact .int _)⟩
theorem cw_lenR {ns : List Int} (q : Q (.int (ns.length : Nat)) m) : CW K (rLenU K) [.scr ns] m Q := fun H vs M a QQ k => by
  cases a with
  | cons a n =>
    cases n
    cases a with
    | scr e => exact .inl ⟨_, (ns.map V.int).length, rfl, .inl ⟨_, hide_le.sql e, rfl⟩, k _ m _ H q (Sub.refl _) M (by rw [List.length_map]; exact .int _)⟩
theorem cw_lenS {x : Str} (hz : x.length ≤ sizeLine) (q : Q (.int (x.length : Nat)) m) : CW K (rLenU K) [.str x] m Q := fun H vs M a QQ k => by
  cases a with
  | cons a n =>
    cases n
    cases a
    exact .inl ⟨_, x.length, rfl, ⟨hz, rfl⟩, k _ m _ H q (Sub.refl _) M (.int _)⟩
def rInt1 : List V → Hp → VK → Prop := fun xs H Q => (∃ i, xs = [.int i] ∧ Q (.int i) H) ∨ ∃ k, xs = [.bl k] ∧ Q (.int (if k then 1 else 0)) H
theorem cr_int1 {X : Cx} : CallR X (.type "int") rInt1 := call_int1
theorem cw_int {i : Int} (q : Q (.int i) m) : CW K rInt1 [.int i] m Q := fun H vs M a QQ k => by
  cases a with
  | cons a n =>
    cases n
    cases a
    exact .inl ⟨i, rfl, k _ m _ H q (Sub.refl _) M (.int _)⟩
theorem cw_intB {b : Bool} (q : Q (.int (if b then 1 else 0)) m) : CW K rInt1 [.bl b] m Q := fun H vs M a QQ k => by
  cases a with
  | cons a n =>
    cases n
    cases a
    exact .inr ⟨b, rfl, k _ m _ H q (Sub.refl _) M (.int _)⟩
def rAbs1 : List V → Hp → VK → Prop := fun xs H Q => ∃ i, xs = [.int i] ∧ Q (.int (if i < 0 then -i else i)) H
theorem cr_abs {X : Cx} : CallR X (.builtin "abs") rAbs1 := call_abs
theorem cw_abs {i : Int} (q : Q (.int (if i < 0 then -i else i)) m) : CW K rAbs1 [.int i] m Q := fun H vs M a QQ k => by
  cases a with
  | cons a n =>
    cases n
    cases a
    exact ⟨i, rfl, k _ m _ H q (Sub.refl _) M (.int _)⟩
def rMx2 : List V → Hp → VK → Prop := fun xs H Q => ∃ i j, xs = [.int i, .int j] ∧ Q (.int (if j > i then j else i)) H
def rMn2 : List V → Hp → VK → Prop := fun xs H Q => ∃ i j, xs = [.int i, .int j] ∧ Q (.int (if j < i then j else i)) H
theorem cr_mx2 {X : Cx} (hc : X.calm = true) : CallR X (.builtin "max") rMx2 := call_max2 hc
theorem cr_mn2 {X : Cx} (hc : X.calm = true) : CallR X (.builtin "min") rMn2 := call_min2 hc
theorem cw_mx2 {i j : Int} (q : Q (.int (if j > i then j else i)) m) : CW K rMx2 [.int i, .int j] m Q := fun H vs M a QQ k => by
  cases a with
  | cons a n =>
    cases n with
    | cons b n =>
      cases n
      cases a
      cases b
      exact ⟨i, j, rfl, k _ m _ H q (Sub.refl _) M (.int _)⟩
theorem cw_mn2 {i j : Int} (q : Q (.int (if j < i then j else i)) m) : CW K rMn2 [.int i, .int j] m Q := fun H vs M a QQ k => by
  cases a with
  | cons a n =>
    cases n with
    | cons b n =>
      cases n
      cases a
      cases b
      exact ⟨i, j, rfl, k _ m _ H q (Sub.refl _) M (.int _)⟩
/-- list(x), tuple(x) of lists and tuples -/
def rListU (K : PySem.W.Frag) : List V → Hp → VK → Prop := fun xs H Q => ∃ p ys, xs = [.ref p] ∧ (SqL K H p ys ∨ SqT K H p ys) ∧ ∀ l, H l = none → Q (.ref l) (upd H l (.lst ys))
theorem cr_listU {X : Cx} : CallR X (.type "list") (rListU X.K) := call_list_of
theorem cw_listL {ds : List D} (q : Q (.lst ds) m) : CW K (rListU K) [.lst ds] m Q := fun H vs M a QQ k => by
  cases a with
  | cons a n =>
    cases n
    obtain ⟨p, xs, rfl, e, r⟩ := lst_at a
    refine ⟨p, xs, rfl, .inl (SqL.of e), fun z hz => ?_⟩
    obtain ⟨M2, s2, r3⟩ := new_lst M r hz
    exact k _ m _ _ q s2 M2 r3
theorem cw_listT {ds : List D} (q : Q (.lst ds) m) : CW K (rListU K) [.tup ds] m Q := fun H vs M a QQ k => by
  cases a with
  | cons a n =>
    cases n
    obtain ⟨p, xs, rfl, e, r⟩ := tup_at a
    refine ⟨p, xs, rfl, .inr e, fun z hz => ?_⟩
    obtain ⟨M2, s2, r3⟩ := new_lst M r hz
    exact k _ m _ _ q s2 M2 r3
theorem cw_listM {j : Nat} {p : Addr} {ds : List D} (hm : m[j]? = some (p, .lst ds)) (q : Q (.lst ds) m) : CW K (rListU K) [.adr p] m Q := fun H vs M a QQ k => by
  cases a with
  | cons a n =>
    cases n
    cases a
    obtain ⟨xs, e, r⟩ := cell_at M hm
    refine ⟨p, xs, rfl, .inl (SqL.of e), fun z hz => ?_⟩
    obtain ⟨M2, s2, r3⟩ := new_lst M r hz
    exact k _ m _ _ q s2 M2 r3
/-- the same, the new list a cell -/
theorem cw_listLM {ds : List D} (q : ∀ z, Q (.adr z) (m ++ [(z, .lst ds)])) : CW K (rListU K) [.lst ds] m Q := fun H vs M a QQ k => by
  cases a with
  | cons a n =>
    cases n
    obtain ⟨p, xs, rfl, e, r⟩ := lst_at a
    refine ⟨p, xs, rfl, .inl (SqL.of e), fun z hz => ?_⟩
    obtain ⟨M2, s2⟩ := new_lstM M r hz
    exact k _ _ _ _ (q z) s2 M2 (.adr z)
theorem cw_all {bs : List Bool} (q : Q (.bl (bs.all id)) m) : CW K (rAll K) [.lst (bs.map D.bl)] m Q := fun H vs M a QQ k => by
  cases a with
  | cons a n =>
    cases n
    obtain ⟨p, xs, rfl, e, r⟩ := lst_at a
    have := r.bls_v
    subst this
    exact ⟨p, bs, rfl, SqL.of e, k _ m _ H q (Sub.refl _) M (.bl _)⟩
end
end DL

set_option Elab.async false
set_option linter.all false
set_option maxRecDepth 100000
set_option maxHeartbeats 1000000
set_option autoImplicit false
namespace DL
open PySem PySem.Spec PyProof.Rows L2
/-! ### targets -/
section
variable (K : PySem.W.Frag)
def GW (g : TG) (d : D) (δ : List (Option D)) (m : Mem) (Q : List (Option D) → Mem → Prop) : Prop := ∀ (σ : L2.St) (H : Hp) (v : V), Sl K (hide m H) σ δ → MemOk K m H → Rd K (hide m H) v d → ∀ QQ : L2.St → Hp → Prop,
  (∀ (δ' : List (Option D)) (m' : Mem) (σ' : L2.St) (H' : Hp), Q δ' m' → Sub (hide m H) (hide m' H') → Sl K (hide m' H') σ' δ' → MemOk K m' H' → QQ σ' H') → g v σ H QQ
def GsW (g : TGs) (ds : List D) (δ : List (Option D)) (m : Mem) (Q : List (Option D) → Mem → Prop) : Prop := ∀ (σ : L2.St) (H : Hp) (vs : List V), Sl K (hide m H) σ δ → MemOk K m H → RdL K (hide m H) vs ds → ∀ QQ : L2.St → Hp → Prop,
  (∀ (δ' : List (Option D)) (m' : Mem) (σ' : L2.St) (H' : Hp), Q δ' m' → Sub (hide m H) (hide m' H') → Sl K (hide m' H') σ' δ' → MemOk K m' H' → QQ σ' H') → g vs σ H QQ
/-- what is walked feeds these data, while F0 stands -/
structure Feeds (J : It) (F0 : Hp) (ds : List D) : Prop where
  go : ∀ (i : Nat) (m : Mem) (H : Hp), Sub F0 (hide m H) → MemOk K m H → i < ds.length → J.go i H
  yld : ∀ (i : Nat) (m : Mem) (H : Hp) (x : V) (H' : Hp) (d : D), Sub F0 (hide m H) → MemOk K m H → ds[i]? = some d → J.yld i H x H' → Sub (hide m H) (hide m H') ∧ MemOk K m H' ∧ Rd K (hide m H') x d
  stop : ∀ (m : Mem) (H : Hp), Sub F0 (hide m H) → MemOk K m H → J.stop ds.length H
def IW (wi : TI) (δ : List (Option D)) (m : Mem) (Q : List D → Mem → Prop) : Prop := ∀ (σ : L2.St) (H : Hp), Sl K (hide m H) σ δ → MemOk K m H → ∀ R : It → Hp → Prop,
  (∀ (J : It) (H1 : Hp) (m1 : Mem) (ds : List D), Q ds m1 → Sub (hide m H) (hide m1 H1) → MemOk K m1 H1 → Feeds K J (hide m1 H1) ds → R J H1) → wi σ H R
end
section
variable {K : PySem.W.Frag} {δ : List (Option D)} {m : Mem} {Q : D → Mem → Prop} {te ta tb tc : TE} {F : Hp} {P : Ps} {t u : TS} {tt : TT} {g : TG} {wi : TI}
theorem gw_name {i : Nat} {d : D} {Q : List (Option D) → Mem → Prop} (q : Q (δ.set i (some d)) m) : GW K (gName i) d δ m Q := fun σ H v s M r QQ k => k _ m _ H q (Sub.refl _) (s.set i r) M
theorem gs_nil {Q : List (Option D) → Mem → Prop} (q : Q δ m) : GsW K gNil [] δ m Q := fun σ H vs s M r QQ k => by
  cases r
  exact ⟨rfl, k δ m σ H q (Sub.refl _) s M⟩
theorem gs_cons {g : TG} {gs : TGs} {d : D} {ds : List D} {Q : List (Option D) → Mem → Prop} (h : GW K g d δ m fun δ1 m1 => GsW K gs ds δ1 m1 Q) : GsW K (gCons g gs) (d :: ds) δ m Q := fun σ H vs s M r QQ k => by
  cases r with
  | cons r1 r2 =>
    refine ⟨_, _, rfl, h σ H _ s M r1 _ fun δ1 m1 σ1 H1 q1 s1 S1 M1 => ?_⟩
    exact q1 σ1 H1 _ S1 M1 (r2.mono s1) _ fun δ2 m2 σ2 H2 q2 s2 S2 M2 => k δ2 m2 σ2 H2 q2 (s1.trans s2) S2 M2
theorem gw_tup {n : Nat} {gs : TGs} {ds : List D} {Q : List (Option D) → Mem → Prop} (hn : ds.length = n) (h : GsW K gs ds δ m Q) : GW K (gTup K n gs) (.tup ds) δ m Q := fun σ H v s M r QQ k => by
  obtain ⟨a, xs, rfl, e, r1⟩ := tup_at r
  exact ⟨a, xs, rfl, e, by rw [r1.length]; exact hn, h σ H xs s M r1 QQ k⟩
theorem sw_asgG (h : EW K te δ m fun d m1 => GW K g d δ m1 P.nx) : SW K (tAsg te g) δ m P := fun σ H s M E k =>
  h σ H s M _ fun d m1 v H1 q1 s1 M1 r1 => q1 σ H1 v (s.mono s1) M1 r1 _ fun δ2 m2 σ2 H2 q2 s2 S2 M2 => k.nx δ2 m2 σ2 H2 q2 (s1.trans s2) S2 M2
/-- xs[i] = d, xs a cell -/
theorem gw_setL {d : D} {Q : List (Option D) → Mem → Prop} (h : EW K ta δ m fun x m1 => EW K tb δ m1 fun y m2 => ∃ i p ds n j, x = .adr p ∧ y = .int n ∧ m2[i]? = some (p, .lst ds) ∧ ixN ds.length n = some j ∧ Q δ (m2.set i (p, .lst (ds.set j d)))) : GW K (gSub ta tb rSetL) d δ m Q := fun σ H v s M r QQ k =>
  h σ H s M _ fun x m1 vx H1 q1 s1 M1 r1 => q1 σ H1 (s.mono s1) M1 _ fun y m2 vy H2 ⟨i, p, ds, n, j, ex, ey, hm, hj, q⟩ s2 M2 r2 => by
    subst ex
    subst ey
    cases r1
    cases r2
    obtain ⟨xs, e, rx⟩ := cell_at M2 hm
    refine ⟨p, xs, n, j, rfl, rfl, e, by rw [rx.length]; exact hj, ?_⟩
    have eh : hide (m2.set i (p, .lst (ds.set j d))) (upd H2 p (.lst (xs.set j v))) = hide m2 H2 := hide_set hm
    refine k δ _ σ _ q (by rw [eh]; exact s1.trans s2) (by rw [eh]; exact s.mono (s1.trans s2)) (M2.set hm ⟨_, upd_same, ?_⟩)
    exact (rx.set (r.mono (s1.trans s2)) j)
/-! ### what is walked -/
theorem feeds_seq {a : Addr} {xs : List V} {ds : List D} {F0 : Hp} (e : F0 a = some (.lst xs)) (r : RdL K F0 xs ds) : Feeds K (Itl K a) F0 ds := by
  have l := r.length
  have at_ : ∀ (m : Mem) (H : Hp), Sub F0 (hide m H) → SqL K H a xs := fun m H s => SqL.of (hide_le _ _ (s _ _ e))
  refine ⟨fun i m H s M h => ?_, fun i m H x H' d s M h y => ?_, fun m H s M => ?_⟩
  · exact ⟨xs, xs[i]'(by omega), at_ m H s, by simp [l, h]⟩
  · obtain ⟨rfl, y⟩ := y
    obtain ⟨v, h1, h2⟩ := r.get h
    have z := y xs (at_ m H' s)
    rw [h1] at z
    cases z
    exact ⟨Sub.refl _, M, h2.mono s⟩
  · exact ⟨xs, at_ m H s, by omega⟩
theorem feeds_tup {a : Addr} {xs : List V} {ds : List D} {F0 : Hp} (e : SqT K F0 a xs) (r : RdL K F0 xs ds) : Feeds K (Itt K a) F0 ds := by
  have l := r.length
  have at_ : ∀ (m : Mem) (H : Hp), Sub F0 (hide m H) → SqT K H a xs := fun m H s => hide_le.sqt (s.sqt e)
  refine ⟨fun i m H s M h => ?_, fun i m H x H' d s M h y => ?_, fun m H s M => ?_⟩
  · exact ⟨xs, xs[i]'(by omega), at_ m H s, by simp [l, h]⟩
  · obtain ⟨rfl, y⟩ := y
    obtain ⟨v, h1, h2⟩ := r.get h
    have z := y xs (at_ m H' s)
    rw [h1] at z
    cases z
    exact ⟨Sub.refl _, M, h2.mono s⟩
  · exact ⟨xs, at_ m H s, by omega⟩
def intsD (lo : Int) (n : Nat) : List D := (List.range n).map fun i => D.int (lo + (i : Nat))
theorem intsD_len (lo : Int) (n : Nat) : (intsD lo n).length = n := by simp [intsD]
theorem intsD_get {lo : Int} {n i : Nat} {d : D} (h : (intsD lo n)[i]? = some d) : i < n ∧ d = .int (lo + (i : Nat)) := by
  unfold intsD at h
  rw [List.getElem?_map] at h
  by_cases l : i < n
  · rw [List.getElem?_range l] at h
    cases h
    exact ⟨l, rfl⟩
  · rw [List.getElem?_eq_none (by simpa using l)] at h; cases h
theorem feeds_rng {lo : Int} {n : Nat} {F0 : Hp} : Feeds K (Itr lo n) F0 (intsD lo n) := by
  refine ⟨fun i m H s M h => by rw [intsD_len] at h; exact h, fun i m H x H' d s M h y => ?_, fun m H s M => by rw [intsD_len]; exact Nat.le_refl n⟩
  obtain ⟨rfl, rfl⟩ := y
  obtain ⟨_, rfl⟩ := intsD_get h
  exact ⟨Sub.refl _, M, .int _⟩
def signsD (x : Str) : List D := x.cps.toList.map fun c => D.str ⟨#[c]⟩
theorem feeds_str {x : Str} {F0 : Hp} : Feeds K (Its x) F0 (signsD x) := by
  have l : (signsD x).length = x.cps.size := by simp [signsD]
  refine ⟨fun i m H s M h => by rw [l] at h; exact h, fun i m H v H' d s M h y => ?_, fun m H s M => by rw [l]; exact Nat.le_refl _⟩
  obtain ⟨rfl, c, hc, rfl⟩ := y
  unfold signsD at h
  rw [List.getElem?_map, Array.getElem?_toList, hc] at h
  cases h
  exact ⟨Sub.refl _, M, .str _⟩
def enumD (ds : List D) : List D := ds.zipIdx.map fun p => D.tup [.int (p.2 : Nat), p.1]
theorem feeds_enum {a : Addr} {xs : List V} {ds : List D} {F0 : Hp} (e : F0 a = some (.lst xs)) (r : RdL K F0 xs ds) : Feeds K (Ite K a) F0 (enumD ds) := by
  have l := r.length
  have l2 : (enumD ds).length = ds.length := by simp [enumD]
  have at_ : ∀ (m : Mem) (H : Hp), Sub F0 (hide m H) → SqL K H a xs := fun m H s => SqL.of (hide_le _ _ (s _ _ e))
  refine ⟨fun i m H s M h => ?_, fun i m H x H' d s M h y => ?_, fun m H s M => ?_⟩
  · rw [l2] at h
    exact ⟨xs, xs[i]'(by omega), at_ m H s, by simp [l, h]⟩
  · obtain ⟨T, v, rfl, hT, rfl, y⟩ := y
    unfold enumD at h
    rw [List.getElem?_map, List.getElem?_zipIdx] at h
    cases q : ds[i]? with
    | none => rw [q] at h; cases h
    | some z =>
      rw [q] at h
      cases h
      obtain ⟨v', h1, h2⟩ := r.get q
      have w := y xs (at_ m H s)
      rw [h1] at w
      cases w
      obtain ⟨M2, s2, r2⟩ := new_tup (ds := [D.int ((i : Nat) : Int), z]) M (.cons (.int _) (.cons (h2.mono s) .nil)) hT
      refine ⟨s2, M2, ?_⟩
      simpa using r2
  · exact ⟨xs, at_ m H s, by omega⟩
/-- a list or a tuple or a text, whatever comes -/
def iAny (K : PySem.W.Frag) (tl : TE) : TI := fun σ H R => tl σ H fun x H1 => (∃ a, x = .ref a ∧ (∃ xs, SqL K H1 a xs) ∧ R (Itl K a) H1) ∨ (∃ a, x = .ref a ∧ (∃ xs, SqT K H1 a xs) ∧ R (Itt K a) H1)
theorem pi_any {X : Cx} {tg l : Expr} {tl : TE} (hl : PE X l tl) : PI X tg l (iAny X.K tl) := by
  constructor
  intro pins s σ H R I h
  refine thn (hl.run pins s σ H _ I h) ?_
  rintro v s1 ⟨x, H1, I1, r1, q⟩
  have nw : ∀ b, b ∈ [s1.heap.objs.size] → FpOk X pins H1 b := by
    intro b hb
    rw [List.mem_singleton.mp hb]
    exact I1.fpOk (Nat.le_refl _) (I1.hok.fresh (Nat.le_refl _))
  rcases q with ⟨a, rfl, ⟨xs, hq⟩, q⟩ | ⟨a, rfl, ⟨xs, hq⟩, q⟩
  · cases r1
    obtain ⟨its, rv, p, hz⟩ := I1.list hq
    exact wpAny_pyIter_list p.isList ⟨s1.heap.objs.size, [s1.heap.objs.size], _, _, H1, rfl, I1.kept (t' := s1.toks) fun b o e => Heap.get?_push_of_some _ e, turn_list a _, ⟨_, Heap.get?_push_size _ rfl, rfl, rfl⟩, nw, q⟩
  · cases r1
    obtain ⟨its, rv, p, hz⟩ := I1.tuple hq
    exact wpAny_pyIter_tuple p ⟨s1.heap.objs.size, [s1.heap.objs.size], _, _, H1, rfl, I1.kept (t' := s1.toks) fun b o e => Heap.get?_push_of_some _ e, turn_tuple a _, ⟨_, Heap.get?_push_size _ rfl, rfl, rfl⟩, nw, q⟩
theorem iw_any {Q : List D → Mem → Prop} (h : EW K te δ m fun x m1 => ∃ ds, (x = .lst ds ∨ x = .tup ds) ∧ Q ds m1) : IW K (iAny K te) δ m Q := fun σ H s M R k =>
  h σ H s M _ fun x m1 v H1 ⟨ds, ex, q⟩ s1 M1 r1 => by
    rcases ex with rfl | rfl
    · cases r1 with
      | lst e r => exact .inl ⟨_, rfl, ⟨_, SqL.of (hide_le _ _ e)⟩, k _ H1 m1 ds q s1 M1 (feeds_seq e r)⟩
    · cases r1 with
      | tup e r => exact .inr ⟨_, rfl, ⟨_, hide_le.sqt e⟩, k _ H1 m1 ds q s1 M1 (feeds_tup e r)⟩
theorem iw_str {Q : List D → Mem → Prop} (h : EW K te δ m fun x m1 => ∃ z, x = .str z ∧ Q (signsD z) m1) : IW K (iStr te) δ m Q := fun σ H s M R k =>
  h σ H s M _ fun x m1 v H1 ⟨z, ex, q⟩ s1 M1 r1 => by
    subst ex
    cases r1
    exact ⟨z, rfl, k _ H1 m1 _ q s1 M1 feeds_str⟩
theorem iw_rng1 {t : TA} {Q : List D → Mem → Prop} (h : AW K t δ m fun xs m1 => ∃ j : Int, xs = [.int j] ∧ -(2 ^ 62) ≤ j ∧ j < 2 ^ 62 ∧ Q (intsD 0 j.toNat) m1) : IW K (iRng1 t) δ m Q := fun σ H s M R k =>
  h σ H s M _ fun x m1 v H1 ⟨j, ex, a, b, q⟩ s1 M1 r1 => by
    subst ex
    cases r1 with
    | cons r1 r2 =>
      cases r2
      cases r1
      exact ⟨j, rfl, a, b, k _ H1 m1 _ q s1 M1 feeds_rng⟩
theorem iw_enum {t : TA} {Q : List D → Mem → Prop} (h : AW K t δ m fun xs m1 => ∃ ds, xs = [.lst ds] ∧ Q (enumD ds) m1) : IW K (iEnum K t) δ m Q := fun σ H s M R k =>
  h σ H s M _ fun x m1 v H1 ⟨ds, ex, q⟩ s1 M1 r1 => by
    subst ex
    cases r1 with
    | cons r1 r2 =>
      cases r2
      cases r1 with
      | lst e r => exact ⟨_, _, rfl, SqL.of (hide_le _ _ e), k _ H1 m1 _ q s1 M1 (feeds_enum e r)⟩
/-! ### loops -/
theorem sw_for (h : IW K wi δ m fun ds m1 => ∃ Iv : Nat → List (Option D) → Mem → Prop, Iv 0 δ m1 ∧
      (∀ (j : Nat) (d : D) (δ' : List (Option D)) (m' : Mem), ds[j]? = some d → Iv j δ' m' → GW K g d δ' m' fun δ2 m2 => SW K t δ2 m2 { nx := Iv (j + 1), ct := Iv (j + 1), bk := P.nx, rt := P.rt }) ∧
      (∀ (δ' : List (Option D)) (m' : Mem), Iv ds.length δ' m' → P.nx δ' m')) : SW K (tFor wi g t) δ m P := fun σ H s M E k =>
  h σ H s M _ fun J H1 m1 ds ⟨Iv, h0, hs, hd⟩ s1 M1 fe => by
    refine ⟨fun i n σ' H' => n = ds.length - i ∧ i ≤ ds.length ∧ ∃ δ' m', Iv i δ' m' ∧ Sub (hide m1 H1) (hide m' H') ∧ Sl K (hide m' H') σ' δ' ∧ MemOk K m' H', ⟨ds.length, rfl, Nat.zero_le _, δ, m1, h0, Sub.refl _, s.mono s1, M1⟩, ?_⟩
    rintro i n σ' H' ⟨rfl, hi, δ', m', hI, s2, S2, M2⟩
    by_cases hlt : i < ds.length
    · refine .inr ⟨fe.go i m' H' s2 M2 hlt, fun σ3 H3 => ∃ δ3 m3, Iv (i + 1) δ3 m3 ∧ Sub (hide m1 H1) (hide m3 H3) ∧ Sl K (hide m3 H3) σ3 δ3 ∧ MemOk K m3 H3, fun σ3 H3 q => ⟨ds.length - (i + 1), by omega, rfl, hlt, q⟩, fun x H3 y => ?_⟩
      have hdi : ds[i]? = some ds[i] := List.getElem?_eq_getElem hlt
      obtain ⟨s3, M3, r3⟩ := fe.yld i m' H' x H3 _ s2 M2 hdi y
      refine hs i _ δ' m' hdi hI σ' H3 x (S2.mono s3) M3 r3 _ fun δ4 m4 σ4 H4 q4 s4 S4 M4 => ?_
      have s34 : Sub (hide m1 H1) (hide m4 H4) := s2.trans (s3.trans s4)
      refine q4 σ4 H4 S4 M4 _ ⟨?_, ?_, ?_, ?_⟩
      · exact fun δ5 m5 σ5 H5 q5 s5 S5 M5 => ⟨δ5, m5, q5, s34.trans s5, S5, M5⟩
      · exact fun d m5 v H5 q5 s5 M5 r5 => k.rt d m5 v H5 q5 (s1.trans (s34.trans s5)) M5 r5
      · exact fun δ5 m5 σ5 H5 q5 s5 S5 M5 => k.nx δ5 m5 σ5 H5 q5 (s1.trans (s34.trans s5)) S5 M5
      · exact fun δ5 m5 σ5 H5 q5 s5 S5 M5 => ⟨δ5, m5, q5, s34.trans s5, S5, M5⟩
    · have e : i = ds.length := by omega
      subst e
      exact .inl ⟨fe.stop m' H' s2 M2, k.nx δ' m' σ' H' (hd δ' m' hI) (s1.trans s2) S2 M2⟩
theorem sw_while (Iv : Nat → List (Option D) → Mem → Prop) (n0 : Nat) (h0 : Iv n0 δ m)
    (hs : ∀ (n : Nat) (δ' : List (Option D)) (m' : Mem), Iv n δ' m' → TW K tt δ' m' fun b m1 => if b = true then SW K t δ' m1 { nx := fun δ2 m2 => ∃ n', n' < n ∧ Iv n' δ2 m2, ct := fun δ2 m2 => ∃ n', n' < n ∧ Iv n' δ2 m2, bk := P.nx, rt := P.rt } else P.nx δ' m1) : SW K (tWhile tt t) δ m P := fun σ H s M E k => by
  refine ⟨fun n σ' H' => ∃ δ' m', Iv n δ' m' ∧ Sub (hide m H) (hide m' H') ∧ Sl K (hide m' H') σ' δ' ∧ MemOk K m' H', ⟨n0, δ, m, h0, Sub.refl _, s, M⟩, ?_⟩
  rintro n σ' H' ⟨δ', m', hI, s2, S2, M2⟩
  refine hs n δ' m' hI σ' H' S2 M2 _ fun b m1 H1 q1 s1 M1 => ?_
  cases b with
  | true =>
    refine ⟨fun σ3 H3 => ∃ n', n' < n ∧ ∃ δ3 m3, Iv n' δ3 m3 ∧ Sub (hide m H) (hide m3 H3) ∧ Sl K (hide m3 H3) σ3 δ3 ∧ MemOk K m3 H3, fun σ3 H3 ⟨n', l, q⟩ => ⟨n', l, q⟩, ?_⟩
    have q1' : SW K t δ' m1 { nx := fun δ2 m2 => ∃ n', n' < n ∧ Iv n' δ2 m2, ct := fun δ2 m2 => ∃ n', n' < n ∧ Iv n' δ2 m2, bk := P.nx, rt := P.rt } := q1
    have s12 := s2.trans s1
    refine q1' σ' H1 (S2.mono s1) M1 _ ⟨?_, ?_, ?_, ?_⟩
    · exact fun δ5 m5 σ5 H5 ⟨n', l, q5⟩ s5 S5 M5 => ⟨n', l, δ5, m5, q5, s12.trans s5, S5, M5⟩
    · exact fun d m5 v H5 q5 s5 M5 r5 => k.rt d m5 v H5 q5 (s12.trans s5) M5 r5
    · exact fun δ5 m5 σ5 H5 q5 s5 S5 M5 => k.nx δ5 m5 σ5 H5 q5 (s12.trans s5) S5 M5
    · exact fun δ5 m5 σ5 H5 ⟨n', l, q5⟩ s5 S5 M5 => ⟨n', l, δ5, m5, q5, s12.trans s5, S5, M5⟩
  | false =>
    have q1' : P.nx δ' m1 := q1
    exact k.nx δ' m1 σ' H1 q1' (s2.trans s1) (S2.mono s1) M1
/-! ### comprehensions -/
theorem wipe_set {σ : L2.St} {o : Option V} : ∀ {vs : List Nat} {j : Nat}, j ∈ vs → wipe (σ.set j o) vs = wipe σ vs
  | v :: vs, j, h => by
    unfold L2.wipe
    rcases List.mem_cons.mp h with e | e
    · subst e
      have gen : ∀ (ws : List Nat), (wipe (σ.set j o) ws).set j none = (wipe σ ws).set j none := by
        intro ws
        induction ws with
        | nil => unfold L2.wipe; rw [List.set_set]
        | cons a ws ih =>
          unfold L2.wipe
          by_cases q : a = j
          · subst q
            rw [List.set_set, List.set_set]
            exact ih
          · rw [List.set_comm _ _ q, List.set_comm _ _ q, ih]
      exact gen vs
    · rw [wipe_set e]
theorem wipe_idem (σ : L2.St) : ∀ vs : List Nat, wipe (wipe σ vs) vs = wipe σ vs := by
  have swap : ∀ (vs : List Nat) (τ : L2.St) (v : Nat), wipe (τ.set v none) vs = (wipe τ vs).set v none := by
    intro vs
    induction vs with
    | nil => intro τ v; rfl
    | cons a vs ih =>
      intro τ v
      unfold L2.wipe
      rw [ih]
      by_cases q : a = v
      · subst q; rfl
      · exact List.set_comm _ _ (fun z => q z.symm)
  intro vs
  induction vs with
  | nil => rfl
  | cons a vs ih =>
    show (wipe ((wipe σ vs).set a none) vs).set a none = (wipe σ vs).set a none
    rw [swap, List.set_set, ih]
/-- a target that stores the comprehension's own names alone -/
def Tame (g : TG) (vs : List Nat) : Prop := ∀ (v : V) (σ τ : L2.St) (H : Hp) (QQ : L2.St → Hp → Prop), wipe τ vs = wipe σ vs → g v τ H QQ → g v τ H fun σ2 H2 => wipe σ2 vs = wipe σ vs ∧ QQ σ2 H2
theorem tame_name {vs : List Nat} {j : Nat} (h : j ∈ vs) : Tame (gName j) vs := fun v σ τ H QQ e q => ⟨(wipe_set h).trans e, q⟩
theorem tame_tup {vs : List Nat} {n : Nat} {gs : TGs} (h : ∀ (ws : List V) (σ τ : L2.St) (H : Hp) (QQ : L2.St → Hp → Prop), wipe τ vs = wipe σ vs → gs ws τ H QQ → gs ws τ H fun σ2 H2 => wipe σ2 vs = wipe σ vs ∧ QQ σ2 H2) : Tame (gTup K n gs) vs := fun v σ τ H QQ e ⟨a, xs, e1, e2, e3, q⟩ => ⟨a, xs, e1, e2, e3, h xs σ τ H QQ e q⟩
theorem tames_nil {vs : List Nat} : ∀ (ws : List V) (σ τ : L2.St) (H : Hp) (QQ : L2.St → Hp → Prop), wipe τ vs = wipe σ vs → gNil ws τ H QQ → gNil ws τ H fun σ2 H2 => wipe σ2 vs = wipe σ vs ∧ QQ σ2 H2 := fun ws σ τ H QQ e ⟨a, q⟩ => ⟨a, e, q⟩
theorem tames_cons {vs : List Nat} {j : Nat} {gs : TGs} (hj : j ∈ vs) (h : ∀ (ws : List V) (σ τ : L2.St) (H : Hp) (QQ : L2.St → Hp → Prop), wipe τ vs = wipe σ vs → gs ws τ H QQ → gs ws τ H fun σ2 H2 => wipe σ2 vs = wipe σ vs ∧ QQ σ2 H2) :
    ∀ (ws : List V) (σ τ : L2.St) (H : Hp) (QQ : L2.St → Hp → Prop), wipe τ vs = wipe σ vs → gCons (gName j) gs ws τ H QQ → gCons (gName j) gs ws τ H fun σ2 H2 => wipe σ2 vs = wipe σ vs ∧ QQ σ2 H2 := fun ws σ τ H QQ e ⟨v, r, e1, q⟩ => ⟨v, r, e1, h r σ _ H QQ ((wipe_set hj).trans e) q⟩
/-- a list comprehension: Iv i acc m, behind i items; acc is what is made so far, m the cells besides -/
theorem ew_lc {vs : List Nat} (tm : Tame g vs) (h : IW K wi δ m fun ds m1 => ∃ Iv : Nat → List D → Mem → Prop, Iv 0 [] m1 ∧
      (∀ (j : Nat) (d : D) (acc : List D) (m' : Mem) (z : Addr), ds[j]? = some d → Iv j acc m' → acc.length < sizeLine ∧ GW K g d (wipeD δ vs) (m' ++ [(z, .lst acc)]) fun δ2 m2 => TW K tt δ2 m2 fun b m3 =>
        if b = true then EW K te δ2 m3 fun y m4 => ∃ m5, m4 = m5 ++ [(z, .lst acc)] ∧ Iv (j + 1) (acc ++ [y]) m5 else ∃ m5, m3 = m5 ++ [(z, .lst acc)] ∧ Iv (j + 1) acc m5) ∧
      (∀ (acc : List D) (m' : Mem), Iv ds.length acc m' → Q (.lst acc) m')) : EW K (tLc wi g tt te vs) δ m Q := fun σ H s M QQ k =>
  h σ H s M _ fun J H1 m1 ds ⟨Iv, h0, hs, hd⟩ s1 M1 fe => by
    intro z hz
    have base : Sub (hide m1 H1) (hide (m1 ++ [(z, .lst [])]) (upd H1 z (.lst []))) := by
      rw [hide_cell hz]
      exact Sub.refl _
    refine ⟨fun i n H' => n = ds.length - i ∧ i ≤ ds.length ∧ ∃ acc m', Iv i acc m' ∧ Sub (hide m1 H1) (hide (m' ++ [(z, .lst acc)]) H') ∧ MemOk K (m' ++ [(z, .lst acc)]) H', ⟨ds.length, rfl, Nat.zero_le _, [], m1, h0, base, M1.cell (c := .lst []) hz ⟨[], upd_same, .nil⟩⟩, ?_⟩
    rintro i n H' ⟨rfl, hi, acc, m', hI, s2, M2⟩
    by_cases hlt : i < ds.length
    · refine .inr ⟨fe.go i _ H' s2 M2 hlt, fun H3 => ∃ acc m3, Iv (i + 1) acc m3 ∧ Sub (hide m1 H1) (hide (m3 ++ [(z, .lst acc)]) H3) ∧ MemOk K (m3 ++ [(z, .lst acc)]) H3, fun H3 q => ⟨ds.length - (i + 1), by omega, rfl, hlt, q⟩, fun x H3 y => ?_⟩
      have hdi : ds[i]? = some ds[i] := List.getElem?_eq_getElem hlt
      obtain ⟨s3, M3, r3⟩ := fe.yld i _ H' x H3 _ s2 M2 hdi y
      obtain ⟨hl, step⟩ := hs i _ acc m' z hdi hI
      have sb : Sub (hide m H) (hide (m' ++ [(z, .lst acc)]) H3) := s1.trans (s2.trans s3)
      refine tm x σ (wipe σ vs) H3 _ (wipe_idem σ vs) ?_
      refine step (wipe σ vs) H3 x ((s.mono sb).wipe vs) M3 r3 _ fun δ4 m4 σ4 H4 q4 s4 S4 M4 => ?_
      refine q4 σ4 H4 S4 M4 _ fun b m5 H5 q5 s5 M5 => ?_
      cases b with
      | true =>
        have q5' : EW K te δ4 m5 fun y m4 => ∃ m5, m4 = m5 ++ [(z, .lst acc)] ∧ Iv (i + 1) (acc ++ [y]) m5 := q5
        refine q5' σ4 H5 (S4.mono s5) M5 _ fun yd m6 yv H6 q6 s6 M6 r6 => ?_
        obtain ⟨m7, e7, hI7⟩ := q6
        subst e7
        have hm : (m7 ++ [(z, Cell.lst acc)])[m7.length]? = some (z, Cell.lst acc) := by simp
        obtain ⟨xs, ex, rx⟩ := cell_at M6 hm
        have es : (m7 ++ [(z, Cell.lst acc)]).set m7.length (z, Cell.lst (acc ++ [yd])) = m7 ++ [(z, Cell.lst (acc ++ [yd]))] := by
          rw [List.set_append_right _ _ (Nat.le_refl _), Nat.sub_self]
          rfl
        have eh : hide (m7 ++ [(z, Cell.lst (acc ++ [yd]))]) (upd H6 z (.lst (xs ++ [yv]))) = hide (m7 ++ [(z, Cell.lst acc)]) H6 := by
          rw [← es]
          exact hide_set hm
        refine ⟨xs, ex, by rw [rx.length]; exact hl, acc ++ [yd], m7, hI7, ?_, ?_⟩
        · rw [eh]
          exact s2.trans (s3.trans (s4.trans (s5.trans s6)))
        · rw [← es]
          exact M6.set hm ⟨xs ++ [yv], upd_same, rx.snoc r6⟩
      | false =>
        have q5' : ∃ m6, m5 = m6 ++ [(z, .lst acc)] ∧ Iv (i + 1) acc m6 := q5
        obtain ⟨m7, e7, hI7⟩ := q5'
        subst e7
        exact ⟨acc, m7, hI7, s2.trans (s3.trans (s4.trans s5)), M5⟩
    · have e : i = ds.length := by omega
      subst e
      refine .inl ⟨fe.stop _ H' s2 M2, ?_⟩
      -- the finished list stands still
      have hm : (m' ++ [(z, Cell.lst acc)])[m'.length]? = some (z, Cell.lst acc) := by simp
      obtain ⟨xs, ex, rx⟩ := cell_at M2 hm
      have nd := M2.nd
      rw [List.map_append] at nd
      have nz : z ∉ m'.map Prod.fst := fun q => by
        have := (List.nodup_append.mp nd).2.2 z q z (by simp)
        exact this rfl
      have sb : Sub (hide (m' ++ [(z, Cell.lst acc)]) H') (hide m' H') := fun a o ea => by
        by_cases q : a ∈ (m' ++ [(z, Cell.lst acc)]).map Prod.fst
        · rw [hide_in q] at ea; cases ea
        · rw [hide_out q] at ea
          rw [hide_out (fun w => q (by rw [List.map_append]; exact List.mem_append_left _ w))]
          exact ea
      have M3 : MemOk K m' H' := ⟨(List.nodup_append.mp nd).1, fun p c hc => (M2.at_ p c (List.mem_append_left _ hc)).mono sb rfl⟩
      refine k (.lst acc) m' (.ref z) H' (hd acc m' hI) (s1.trans (s2.trans sb)) M3 (.lst ?_ (rx.mono sb))
      rw [hide_out nz]
      exact ex
end
end DL

set_option Elab.async false
set_option linter.all false
set_option maxRecDepth 100000
set_option maxHeartbeats 1000000
set_option autoImplicit false
namespace DL
open PySem PySem.Spec PyProof.Rows L2
section
variable {K : PySem.W.Frag} {δ : List (Option D)} {m : Mem} {Q : D → Mem → Prop} {te ta tb tc : TE} {F : Hp} {P : Ps} {t u : TS} {tt : TT} {g : TG} {wi : TI}
/-! ### a cell set still -/
theorem MemOk.drop {H : Hp} {p : Addr} {c : Cell} (M : MemOk K (m ++ [(p, c)]) H) : MemOk K m H ∧ Sub (hide (m ++ [(p, c)]) H) (hide m H) ∧ hide m H p = H p := by
  have nd := M.nd
  rw [List.map_append] at nd
  have nz : p ∉ m.map Prod.fst := fun q => (List.nodup_append.mp nd).2.2 p q p (by simp) rfl
  have sb : Sub (hide (m ++ [(p, c)]) H) (hide m H) := fun a o ea => by
    by_cases q : a ∈ (m ++ [(p, c)]).map Prod.fst
    · rw [hide_in q] at ea; cases ea
    · rw [hide_out q] at ea
      rw [hide_out (fun w => q (by rw [List.map_append]; exact List.mem_append_left _ w))]
      exact ea
  exact ⟨⟨(List.nodup_append.mp nd).1, fun q d hc => (M.at_ q d (List.mem_append_left _ hc)).mono sb rfl⟩, sb, hide_out nz⟩
/-- the data that a cell holds -/
def Cell.d : Cell → Option D
  | .lst ds => some (.lst ds)
  | .dic ds => some (.dic ds)
  | .ins C fs => some (.ins C fs)
  | .xd _ => none
  | .obj _ => none
  | .tbl _ => none
  | .dct _ => none
theorem still_of {H : Hp} {p : Addr} {c : Cell} {d : D} {F : Hp} (h : CellAt K F H p c) (e : c.d = some d) {G : Hp} (s : Sub F G) (k : G p = H p) : Rd K G (.ref p) d := by
  cases c with
  | lst ds => cases e; obtain ⟨xs, q, r⟩ := h; exact .lst (k.trans q) (r.mono s)
  | dic ds => cases e; obtain ⟨xs, q, n, r⟩ := h; exact .dic (k.trans q) n (r.mono s)
  | ins C ds => cases e; obtain ⟨dx, xs, q, n, r⟩ := h; exact .ins (k.trans q) n (r.mono s)
  | xd ds => cases e
  | obj o => cases e
  | tbl q => cases e
  | dct ds => cases e
/-- the last cell is given up: what it holds is data from now on -/
theorem ew_still (h : EW K te δ m fun x m1 => ∃ p c d m2, x = .adr p ∧ m1 = m2 ++ [(p, c)] ∧ c.d = some d ∧ Q d m2) : EW K te δ m Q := fun σ H s M QQ k =>
  h σ H s M _ fun x m1 v H1 ⟨p, c, d, m2, e1, e2, ec, q⟩ s1 M1 r1 => by
    subst e1
    subst e2
    cases r1
    obtain ⟨M2, sb, hp⟩ := M1.drop
    exact k d m2 _ H1 q (s1.trans sb) M2 (still_of (M1.at_ p c (by simp)) ec sb hp)
/-! ### more statements -/
theorem sw_par {i j : Nat} {t : TA} (h : AW K t δ m fun xs m1 => ∃ x y, xs = [x, y] ∧ P.nx ((δ.set i (some x)).set j (some y)) m1) : SW K (tPar i j t) δ m P := fun σ H s M E k =>
  h σ H s M _ fun xs m1 vs H1 ⟨x, y, e, q⟩ s1 M1 r1 => by
    subst e
    cases r1 with
    | cons r1 r2 =>
      cases r2 with
      | cons r2 r3 =>
        cases r3
        exact ⟨_, _, rfl, k.nx _ m1 _ H1 q s1 (((s.mono s1).set i r1).set j r2) M1⟩
theorem sw_par3 {i j l : Nat} {t : TA} (h : AW K t δ m fun xs m1 => ∃ x y z, xs = [x, y, z] ∧ P.nx (((δ.set i (some x)).set j (some y)).set l (some z)) m1) : SW K (tPar3 i j l t) δ m P := fun σ H s M E k =>
  h σ H s M _ fun xs m1 vs H1 ⟨x, y, z, e, q⟩ s1 M1 r1 => by
    subst e
    cases r1 with
    | cons r1 r2 =>
      cases r2 with
      | cons r2 r3 =>
        cases r3 with
        | cons r3 r4 =>
          cases r4
          exact ⟨_, _, _, rfl, k.nx _ m1 _ H1 q s1 ((((s.mono s1).set i r1).set j r2).set l r3) M1⟩
theorem sw_aug {i : Nat} {f : Int → Int → Int} {a : Int} (hx : δ[i]? = some (some (.int a))) (h : EW K te δ m fun y m1 => ∃ b, y = .int b ∧ P.nx (δ.set i (some (.int (f a b)))) m1) : SW K (tAug i te (ipI f)) δ m P := fun σ H s M E k => by
  obtain ⟨v, e, r⟩ := s.at_ i _ hx
  cases r
  refine ⟨_, e, h σ H s M _ fun y m1 w H1 ⟨b, eb, q⟩ s1 M1 r1 => ?_⟩
  subst eb
  cases r1
  exact ⟨a, b, rfl, rfl, k.nx _ m1 _ H1 q s1 ((s.mono s1).set i (.int _)) M1⟩
/-! ### methods of lists that are cells -/
theorem ew_bm {T : String} {r : V → List V → Hp → VK → Prop} {ta : TE} {t : TA} (h : EW K ta δ m fun x m1 => (∀ (H : Hp) (v : V), MemOk K m1 H → Rd K (hide m1 H) v x → tyV K T v H) ∧ AW K t δ m1 fun xs m2 => MW K r x xs m2 Q) : EW K (tBM K T r ta t) δ m Q := fun σ H s M QQ k =>
  h σ H s M _ fun x m1 v1 H1 ⟨ty, q1⟩ s1 M1 r1 => ⟨ty H1 v1 M1 r1, q1 σ H1 (s.mono s1) M1 _ fun ds m2 vs H2 q2 s2 M2 r2 => q2 H2 v1 vs M2 (r1.mono s2) r2 _ fun d m3 w H3 q3 s3 M3 r3 => k d m3 w H3 q3 (s1.trans (s2.trans s3)) M3 r3⟩
theorem ew_bm0 {T : String} {r : V → List V → Hp → VK → Prop} {ta : TE} (h : EW K ta δ m fun x m1 => (∀ (H : Hp) (v : V), MemOk K m1 H → Rd K (hide m1 H) v x → tyV K T v H) ∧ MW K r x [] m1 Q) : EW K (tBM0 K T r ta) δ m Q := fun σ H s M QQ k =>
  h σ H s M _ fun x m1 v1 H1 ⟨ty, q1⟩ s1 M1 r1 => ⟨ty H1 v1 M1 r1, q1 H1 v1 [] M1 r1 .nil _ fun d m3 w H3 q3 s3 M3 r3 => k d m3 w H3 q3 (s1.trans s3) M3 r3⟩
theorem ty_M {i : Nat} {p : Addr} {ds : List D} (hm : m[i]? = some (p, .lst ds)) : ∀ (H : Hp) (v : V), MemOk K m H → Rd K (hide m H) v (.adr p) → tyV K "list" v H := fun H v M r => by
  cases r
  obtain ⟨xs, e, _⟩ := cell_at M hm
  exact .inl ⟨rfl, xs, SqL.of e⟩
theorem ty_S {x : Str} : ∀ (H : Hp) (v : V), MemOk K m H → Rd K (hide m H) v (.str x) → tyV K "str" v H := fun H v M r => by
  cases r
  rfl
theorem set_cell {H : Hp} {i : Nat} {p : Addr} {c c' : Cell} {o : HO} (M : MemOk K m H) (hm : m[i]? = some (p, c)) (hc : CellAt K (hide m H) (upd H p o) p c') : MemOk K (m.set i (p, c')) (upd H p o) ∧ Sub (hide m H) (hide (m.set i (p, c')) (upd H p o)) := by
  refine ⟨M.set hm hc, ?_⟩
  rw [hide_set hm]
  exact Sub.refl _
theorem mw_append {i : Nat} {p : Addr} {ds : List D} {d : D} (hm : m[i]? = some (p, .lst ds)) (hl : ds.length < sizeLine) (q : Q .non (m.set i (p, .lst (ds ++ [d])))) : MW K rAppend (.adr p) [d] m Q := fun H v vs M a b QQ k => by
  cases a
  cases b with
  | cons b n =>
    cases n
    obtain ⟨xs, e, r⟩ := cell_at M hm
    obtain ⟨M2, s2⟩ := set_cell (c' := .lst (ds ++ [d])) (o := .lst (xs ++ [_])) M hm ⟨_, upd_same, r.snoc b⟩
    exact ⟨p, xs, _, rfl, rfl, e, by rw [r.length]; exact hl, k .non _ .non _ q s2 M2 .non⟩
/-- xs.index(y), plain data -/
theorem dp_list {H : Hp} {p : Addr} {xs : List V} {ds : List D} {n : Nat} (e : H p = some (.lst xs)) (r : RdL K H xs ds) (h : ds.all (D.fl n) = true) : Dp K H (.ref p) (.list (D.pyL ds)) := by
  have : Dp K H (.ref p) (D.lst ds).py := Rd.dp (n + 1) (.lst ds) _ h (.lst e r)
  simpa only [D.py] using this
theorem RdL.top {H : Hp} {v : List V} {d : List D} (r : RdL K (hide m H) v d) : RdL K H v d := r.mono hide_le
theorem mw_index_at {H : Hp} {p : Addr} {xs : List V} {ds : List D} {d : D} {n j : Nat} {w : V} {QQ : VK} (M : MemOk K m H) (e : H p = some (.lst xs)) (r : RdL K (hide m H) xs ds) (b : Rd K (hide m H) w d) (hn : n ≤ 63) (hf : ds.all (D.fl n) = true) (hd : d.fl n = true)
    (hj : ∃ z, ds[j]? = some z ∧ PyData.eqv z.py d.py = true) (hno : ∀ (i : Nat) (z : D), i < j → ds[i]? = some z → PyData.eqv z.py d.py = false) (q : QQ (.int (j : Nat)) H) : rIndexD K (.ref p) [w] H QQ := by
  obtain ⟨z, hz, he⟩ := hj
  refine ⟨p, w, d.py, D.pyL ds, j, z.py, rfl, rfl, dp_list e r.top hf, Rd.dp n d w hd b.top, ?_, fl_ok hd (by omega), ?_, he, fun i z' hi hz' => ?_, q⟩
  · have : SeqAt.shaped (D.lst ds).py = true := fl_ok (n := n + 1) (d := .lst ds) hf (by omega)
    simpa only [D.py] using this
  · rw [pyL_map, List.getElem?_map, hz]
    rfl
  · rw [pyL_map, List.getElem?_map] at hz'
    cases c : ds[i]? with
    | none => rw [c] at hz'; cases hz'
    | some y =>
      rw [c] at hz'
      cases hz'
      exact hno i y hi c
theorem mw_indexM {i : Nat} {p : Addr} {ds : List D} {d : D} {n j : Nat} (hm : m[i]? = some (p, .lst ds)) (hn : n ≤ 63) (hf : ds.all (D.fl n) = true) (hd : d.fl n = true) (hj : ∃ z, ds[j]? = some z ∧ PyData.eqv z.py d.py = true) (hno : ∀ (i : Nat) (z : D), i < j → ds[i]? = some z → PyData.eqv z.py d.py = false) (q : Q (.int (j : Nat)) m) :
    MW K (rIndexD K) (.adr p) [d] m Q := fun H v vs M a b QQ k => by
  cases a
  cases b with
  | cons b w =>
    cases w
    obtain ⟨xs, e, r⟩ := cell_at M hm
    exact mw_index_at M e r b hn hf hd hj hno (k _ m _ H q (Sub.refl _) M (.int _))
/-! ### in: lists, tuples of plain data; dicts; sets; a sign in a text -/
def D.flat : D → Bool
  | .non => true
  | .bl _ => true
  | .int _ => true
  | .str _ => true
  | _ => false
def D.eqf : D → D → Bool
  | .non, .non => true
  | .bl a, .bl b => a == b
  | .bl a, .int b => (if a then 1 else 0) == b
  | .int a, .bl b => a == (if b then 1 else 0)
  | .int a, .int b => a == b
  | .str a, .str b => a == b
  | _, _ => false
theorem flat_v {F : Hp} {v : V} {d : D} (r : Rd K F v d) (h : d.flat = true) : flatV v = true := by cases r <;> simp_all [D.flat, flatV]
theorem eqf_v {F : Hp} {v w : V} {d e : D} (r : Rd K F v d) (s : Rd K F w e) (h : d.flat = true) (h' : e.flat = true) : eqV v w = d.eqf e := by
  cases r <;> cases s <;> simp_all [D.flat, eqV, D.eqf]
theorem flats_v {F : Hp} : ∀ {vs : List V} {ds : List D}, RdL K F vs ds → ds.all D.flat = true → vs.all flatV = true
  | _, _, .nil, _ => rfl
  | _, _, .cons r s, h => by
    rw [List.all_cons, Bool.and_eq_true] at h
    rw [List.all_cons, flat_v r h.1, flats_v s h.2]
    rfl
theorem any_v {F : Hp} {w : V} {e : D} (s : Rd K F w e) (h' : e.flat = true) : ∀ {vs : List V} {ds : List D}, RdL K F vs ds → ds.all D.flat = true → (vs.any fun y => eqV y w) = ds.any fun y => y.eqf e
  | _, _, .nil, _ => rfl
  | _, _, .cons r t, h => by
    rw [List.all_cons, Bool.and_eq_true] at h
    rw [List.any_cons, List.any_cons, eqf_v r s h.1 h', any_v s h' t h.2]
def rDctIn (neg : Bool) : R2 := fun y x H Q => ∃ (a : Addr) (o : Option V), x = .ref a ∧ DGet H a y o ∧ Q (.bl (if neg then !o.isSome else o.isSome)) H
theorem op_dctIn {X : Cx} (hu : X.A.units + 64 < cLine) : OpR X (compareOp .In) (rDctIn false) := by
  intro pins s σ H y x v u Q I ry rx h
  obtain ⟨a, o, rfl, g, q⟩ := h
  cases rx
  exact d_in (by omega) I g ry fun s' I' => ⟨.bl o.isSome, H, I', rfl, q⟩
theorem op_dctNotIn {X : Cx} (hu : X.A.units + 64 < cLine) : OpR X (compareOp .NotIn) (rDctIn true) := by
  intro pins s σ H y x v u Q I ry rx h
  obtain ⟨a, o, rfl, g, q⟩ := h
  cases rx
  exact d_notIn (by omega) I g ry fun s' I' => ⟨.bl (!o.isSome), H, I', rfl, q⟩
def rSgn : R2 := fun x y H Q => ∃ (c : Nat) (z : Str), x = .str ⟨#[c]⟩ ∧ y = .str z ∧ Q (.bl (decide (c ∈ z.cps.toList))) H
def rNotSgn : R2 := fun x y H Q => ∃ (c : Nat) (z : Str), x = .str ⟨#[c]⟩ ∧ y = .str z ∧ Q (.bl (!decide (c ∈ z.cps.toList))) H
def rInU (P : Program) (w : World) (K : PySem.W.Frag) : R2 := fun x y H Q => rIn K false x y H Q ∨ (rDctIn false x y H Q ∨ (rSInK P w false x y H Q ∨ rSgn x y H Q))
def rNotInU (P : Program) (w : World) (K : PySem.W.Frag) : R2 := fun x y H Q => rIn K true x y H Q ∨ (rDctIn true x y H Q ∨ (rSInK P w true x y H Q ∨ rNotSgn x y H Q))
theorem op_inU {X : Cx} (hu : X.A.units + 64 < cLine) : OpR X (compareOp .In) (rInU X.prog X.w X.K) := OpR.or op_in_seq (OpR.or (op_dctIn hu) (OpR.or or_sinK op_in_sign))
theorem op_notInU {X : Cx} (hu : X.A.units + 64 < cLine) : OpR X (compareOp .NotIn) (rNotInU X.prog X.w X.K) := OpR.or op_notIn_seq (OpR.or (op_dctNotIn hu) (OpR.or or_snotinK op_notIn_sign))
section
variable {Pg : Program} {w : World}
theorem rin_M {neg : Bool} {i : Nat} {p : Addr} {ds : List D} {d : D} (hm : m[i]? = some (p, .lst ds)) (hf : ds.all D.flat = true) (hd : d.flat = true) (q : Q (.bl (if neg then !ds.any (fun y => y.eqf d) else ds.any (fun y => y.eqf d))) m) : OW K (rIn K neg) d (.adr p) m Q := fun H v u M a b QQ k => by
  cases b
  obtain ⟨xs, e, r⟩ := cell_at M hm
  exact ⟨p, xs, rfl, .inl (SqL.of e), flat_v a hd, flats_v r hf, k _ m _ H q (Sub.refl _) M (by unfold inV; rw [any_v a hd r hf]; exact .bl _)⟩
theorem dicM_at {H : Hp} {i : Nat} {p : Addr} {ds : List (Key × D)} (M : MemOk K m H) (h : m[i]? = some (p, .dic ds)) : ∃ xs : List (Key × V), H p = some (.dK xs) ∧ xs.map Prod.fst = ds.map Prod.fst ∧ RdL K (hide m H) (xs.map Prod.snd) (ds.map Prod.snd) := M.get h
theorem rin_DM {neg : Bool} {i : Nat} {p : Addr} {kvs : List (Key × D)} {x : Key} (hm : m[i]? = some (p, .dic kvs)) (q : Q (.bl (if neg then !(valD kvs x).isSome else (valD kvs x).isSome)) m) : OW K (rDctIn neg) (kD x) (.adr p) m Q := fun H v u M a b QQ k => by
  cases b
  obtain ⟨xs, e, n, r⟩ := dicM_at M hm
  have ea := kD_v a
  subst ea
  refine ⟨p, L2.valV xs x, rfl, DGet.k e, k _ m _ H q (Sub.refl _) M ?_⟩
  have z := RdL.valV x n r
  have es : (L2.valV xs x).isSome = (valD kvs x).isSome := by
    cases c : valD kvs x with
    | none => rw [z.2 c] <;> rfl
    | some d =>
      obtain ⟨v, e1, _⟩ := z.1 d c
      rw [e1] <;> rfl
  rw [es]
  exact .bl _
/-- a set of numbers and texts, a cell -/
def setC (Pg : Program) (w : World) (p : Addr) (S : Key → Bool) (n : Nat) : Cell := .obj (SetK Pg w p S n)
theorem rin_S {neg : Bool} {i : Nat} {p : Addr} {S : Key → Bool} {n : Nat} {x : Key} (hm : m[i]? = some (p, setC Pg w p S n)) (q : Q (.bl (if neg then !S x else S x)) m) : OW K (rSInK Pg w neg) (kD x) (.adr p) m Q := fun H v u M a b QQ k => by
  cases b
  have ea := kD_v a
  subst ea
  exact ⟨x, p, S, n, rfl, rfl, M.get hm, k _ m _ H q (Sub.refl _) M (.bl _)⟩
theorem cw_set0 (q : ∀ p, Q (.adr p) (m ++ [(p, setC Pg w p (fun _ => false) 0)])) : CW K (rSet0K Pg w) [] m Q := fun H vs M a QQ k => by
  cases a
  refine ⟨rfl, fun p hp => ?_⟩
  have e : hide (m ++ [(p, setC Pg w p (fun _ => false) 0)]) (upd H p (SetK Pg w p (fun _ => false) 0)) = hide m H := hide_cell hp
  exact k _ _ _ _ (q p) (by rw [e]; exact Sub.refl _) (M.cell (c := setC Pg w p (fun _ => false) 0) hp upd_same) (.adr p)
theorem ew_saddK {ta : TE} {t : TA} (h : EW K ta δ m fun x m1 => (∃ (p : Addr) (i : Nat) (S : Key → Bool) (n : Nat), x = .adr p ∧ m1[i]? = some (p, setC Pg w p S n)) ∧ AW K t δ m1 fun xs m2 => ∃ (p : Addr) (i : Nat) (S : Key → Bool) (n : Nat) (k : Key), x = .adr p ∧ xs = [kD k] ∧ m2[i]? = some (p, setC Pg w p S n) ∧ n + 1 < scanBound ∧
      Q .non (m2.set i (p, setC Pg w p (fun j => S j || decide (j = k)) (if S k = true then n else n + 1)))) : EW K (tSAddK Pg w ta t) δ m Q := fun σ H s M QQ k =>
  h σ H s M _ fun x m1 v1 H1 ⟨⟨p, i, S, n, ex, hm⟩, q1⟩ s1 M1 r1 => by
    subst ex
    cases r1
    refine ⟨⟨p, S, n, rfl, M1.get hm⟩, q1 σ H1 (s.mono s1) M1 _ fun ds m2 vs H2 ⟨p', i', S', n', kk, e1, e2, hm', hn, q2⟩ s2 M2 r2 => ?_⟩
    cases e1
    subst e2
    cases r2 with
    | cons r2 r3 =>
      cases r3
      have ea := kD_v r2
      subst ea
      obtain ⟨M3, s3⟩ := set_cell (c' := setC Pg w p (fun j => S' j || decide (j = kk)) (if S' kk = true then n' else n' + 1)) (o := SetK Pg w p (fun j => S' j || decide (j = kk)) (if S' kk = true then n' else n' + 1)) M2 hm' upd_same
      exact ⟨p, kk, S', n', rfl, rfl, M2.get hm', hn, k _ _ _ _ q2 (s1.trans (s2.trans s3)) M3 .non⟩
theorem ow_sgn {c : Nat} {z : Str} (q : Q (.bl (decide (c ∈ z.cps.toList))) m) : OW K rSgn (.str ⟨#[c]⟩) (.str z) m Q := fun H v u M a b QQ k => by
  cases a
  cases b
  exact ⟨c, z, rfl, rfl, k _ m _ H q (Sub.refl _) M (.bl _)⟩
end
/-! ### dicts -/
def putD (kvs : List (Key × D)) (k : Key) (d : D) : List (Key × D) := if (kvs.any fun kv => decide (kv.1 = k)) = true then kvs.map (fun kv => if kv.1 = k then (kv.1, d) else kv) else kvs ++ [(k, d)]
theorem putD_rel {F : Hp} {k : Key} {v : V} {d : D} (rv : Rd K F v d) {vs : List (Key × V)} {ds : List (Key × D)} (n : vs.map Prod.fst = ds.map Prod.fst) (r : RdL K F (vs.map Prod.snd) (ds.map Prod.snd)) :
    (putK vs k v).map Prod.fst = (putD ds k d).map Prod.fst ∧ RdL K F ((putK vs k v).map Prod.snd) ((putD ds k d).map Prod.snd) := by
  have ha : (vs.any fun kv => decide (kv.1 = k)) = (ds.any fun kv => decide (kv.1 = k)) := by
    have e1 : (vs.any fun kv => decide (kv.1 = k)) = ((vs.map Prod.fst).any fun x => decide (x = k)) := by rw [List.any_map]; rfl
    have e2 : (ds.any fun kv => decide (kv.1 = k)) = ((ds.map Prod.fst).any fun x => decide (x = k)) := by rw [List.any_map]; rfl
    rw [e1, e2, n]
  unfold putK putD
  rw [ha]
  by_cases c : (ds.any fun kv => decide (kv.1 = k)) = true
  · rw [if_pos c, if_pos c]
    clear ha c
    have key : ∀ (vs : List (Key × V)) (ds : List (Key × D)), vs.map Prod.fst = ds.map Prod.fst → RdL K F (vs.map Prod.snd) (ds.map Prod.snd) →
        (vs.map (fun kv => if kv.1 = k then (kv.1, v) else kv)).map Prod.fst = (ds.map (fun kv => if kv.1 = k then (kv.1, d) else kv)).map Prod.fst ∧ RdL K F ((vs.map (fun kv => if kv.1 = k then (kv.1, v) else kv)).map Prod.snd) ((ds.map (fun kv => if kv.1 = k then (kv.1, d) else kv)).map Prod.snd) := by
      intro vs
      induction vs with
      | nil =>
        intro ds n r
        cases ds with
        | nil => exact ⟨rfl, .nil⟩
        | cons => simp at n
      | cons p vs ih =>
        intro ds n r
        cases ds with
        | nil => simp at n
        | cons q ds =>
          obtain ⟨k1, v1⟩ := p
          obtain ⟨k2, d2⟩ := q
          simp only [List.map_cons, List.cons.injEq] at n
          obtain ⟨n1, n2⟩ := n
          subst n1
          cases r with
          | cons r1 r2 =>
            obtain ⟨a, b⟩ := ih ds n2 r2
            by_cases e : k1 = k
            · simp only [List.map_cons, if_pos e]
              exact ⟨by rw [a], .cons rv b⟩
            · simp only [List.map_cons, if_neg e]
              exact ⟨by rw [a], .cons r1 b⟩
    exact key vs ds n r
  · rw [if_neg c, if_neg c, List.map_append, List.map_append, List.map_append, List.map_append, n]
    exact ⟨rfl, r.append (.cons rv .nil)⟩
theorem ew_dnew (q : Q (.dic []) m) : EW K tDNewK δ m Q := fun σ H s M QQ k => fun p hp => by
  obtain ⟨M2, s2⟩ := M.new (o := .dK []) hp
  refine k _ m _ _ q s2 M2 (.dic (vs := []) ?_ rfl .nil)
  rw [hide_new M hp]
  exact upd_same
/-- d[k] = v, d a cell -/
theorem sw_dput {td ty tv : TE} (h : EW K tv δ m fun z m1 => EW K td δ m1 fun x m2 => EW K ty δ m2 fun y m3 => ∃ (p : Addr) (i : Nat) (kvs : List (Key × D)) (k : Key), x = .adr p ∧ y = kD k ∧ m3[i]? = some (p, .dic kvs) ∧ kvs.length < sizeLine ∧ P.nx δ (m3.set i (p, .dic (putD kvs k z)))) : SW K (sDPut td ty tv) δ m P := fun σ H s M E k =>
  h σ H s M _ fun z m1 vz H1 q1 s1 M1 r1 => q1 σ H1 (s.mono s1) M1 _ fun x m2 vx H2 q2 s2 M2 r2 => q2 σ H2 (s.mono (s1.trans s2)) M2 _ fun y m3 vy H3 ⟨p, i, kvs, kk, e1, e2, hm, hl, q⟩ s3 M3 r3 => by
    subst e1
    subst e2
    cases r2
    have ea := kD_v r3
    subst ea
    obtain ⟨xs, e, n, r⟩ := dicM_at M3 hm
    obtain ⟨a, b⟩ := putD_rel (k := kk) (r1.mono (s2.trans s3)) n r
    have hlen : xs.length = kvs.length := by
      have := congrArg List.length n
      simpa using this
    obtain ⟨M4, s4⟩ := set_cell (c' := .dic (putD kvs kk z)) (o := .dK (putK xs kk vz)) M3 hm ⟨_, upd_same, a, b⟩
    exact ⟨p, _, rfl, DPut.k e (by rw [hlen]; exact hl), k.nx δ _ σ _ q ((s1.trans s2).trans (s3.trans s4)) (s.mono ((s1.trans s2).trans (s3.trans s4))) M4⟩
/-! ### instances -/
def putFD (f : Str) (d : D) : List (Str × D) → List (Str × D)
  | [] => [(f, d)]
  | (g, x) :: r => if g = f then (g, d) :: r else (g, x) :: putFD f d r
theorem putF_rel {F : Hp} {f : Str} {v : V} {d : D} (rv : Rd K F v d) : ∀ {vs : List (Str × V)} {ds : List (Str × D)}, vs.map Prod.fst = ds.map Prod.fst → RdL K F (vs.map Prod.snd) (ds.map Prod.snd) → (putF f v vs).map Prod.fst = (putFD f d ds).map Prod.fst ∧ RdL K F ((putF f v vs).map Prod.snd) ((putFD f d ds).map Prod.snd)
  | [], [], _, _ => ⟨rfl, .cons rv .nil⟩
  | [], _ :: _, n, _ => by simp at n
  | _ :: _, [], n, _ => by simp at n
  | (k1, v1) :: vs, (k2, d2) :: ds, n, r => by
    simp only [List.map_cons, List.cons.injEq] at n
    obtain ⟨n1, n2⟩ := n
    subst n1
    cases r with
    | cons r1 r2 =>
      unfold L2.putF putFD
      by_cases e : k1 = f
      · rw [if_pos e, if_pos e]
        exact ⟨by rw [List.map_cons, List.map_cons, n2], .cons rv r2⟩
      · rw [if_neg e, if_neg e]
        obtain ⟨a, b⟩ := putF_rel (f := f) rv n2 r2
        exact ⟨by rw [List.map_cons, List.map_cons, a], .cons r1 b⟩
theorem lookup_rel {F : Hp} {f : Str} : ∀ {vs : List (Str × V)} {ds : List (Str × D)}, vs.map Prod.fst = ds.map Prod.fst → RdL K F (vs.map Prod.snd) (ds.map Prod.snd) → (∀ d, ds.lookup f = some d → ∃ v, vs.lookup f = some v ∧ Rd K F v d) ∧ (ds.lookup f = none → vs.lookup f = none)
  | [], [], _, _ => ⟨fun d h => (nomatch h), fun _ => rfl⟩
  | [], _ :: _, n, _ => by simp at n
  | _ :: _, [], n, _ => by simp at n
  | (k1, v1) :: vs, (k2, d2) :: ds, n, r => by
    simp only [List.map_cons, List.cons.injEq] at n
    obtain ⟨n1, n2⟩ := n
    subst n1
    cases r with
    | cons r1 r2 =>
      have ih := lookup_rel (f := f) n2 r2
      by_cases e : f = k1
      · have hb : (f == k1) = true := by simpa using e
        simp only [List.lookup, hb]
        exact ⟨fun d h => (by cases h; exact ⟨_, rfl, r1⟩), fun h => (nomatch h)⟩
      · have hb : (f == k1) = false := by simpa using e
        simp only [List.lookup, hb]
        exact ih
theorem ins_at {H : Hp} {v : V} {C : Addr} {ds : List (Str × D)} (r : Rd K (hide m H) v (.ins C ds)) : ∃ (a dx : Addr) (xs : List (Str × V)), v = .ref a ∧ H a = some (.ins C dx xs) ∧ xs.map Prod.fst = ds.map Prod.fst ∧ RdL K (hide m H) (xs.map Prod.snd) (ds.map Prod.snd) := by
  cases r with
  | ins e n r => exact ⟨_, _, _, rfl, hide_le _ _ e, n, r⟩
theorem insM_at {H : Hp} {i : Nat} {p C : Addr} {ds : List (Str × D)} (M : MemOk K m H) (h : m[i]? = some (p, .ins C ds)) : ∃ (dx : Addr) (xs : List (Str × V)), H p = some (.ins C dx xs) ∧ xs.map Prod.fst = ds.map Prod.fst ∧ RdL K (hide m H) (xs.map Prod.snd) (ds.map Prod.snd) := M.get h
theorem ew_fld {f : Str} (h : EW K ta δ m fun x m1 => ∃ (C : Addr) (fs : List (Str × D)) (d : D), x = .ins C fs ∧ Cls K C ∧ NoAttr K C f ∧ fs.lookup f = some d ∧ Q d m1) : EW K (tFld K ta f) δ m Q := fun σ H s M QQ k =>
  h σ H s M _ fun x m1 v H1 ⟨C, fs, d, ex, c, n, l, q⟩ s1 M1 r1 => by
    subst ex
    obtain ⟨a, dx, xs, rfl, e, nm, r⟩ := ins_at r1
    obtain ⟨w, e1, r2⟩ := (lookup_rel (f := f) nm r).1 d l
    exact ⟨a, C, dx, xs, w, rfl, e, c, n, e1, k d m1 w H1 q s1 M1 r2⟩
theorem sw_fld {tv : TE} {f : Str} (h : EW K tv δ m fun d m1 => EW K ta δ m1 fun x m2 => ∃ (i : Nat) (p C : Addr) (fs : List (Str × D)), x = .adr p ∧ m2[i]? = some (p, .ins C fs) ∧ Cls K C ∧ NoAttr K C f ∧ fs.length < 1000 ∧ P.nx δ (m2.set i (p, .ins C (putFD f d fs)))) : SW K (sFld K ta tv f) δ m P := fun σ H s M E k =>
  h σ H s M _ fun d m1 v H1 q1 s1 M1 r1 => q1 σ H1 (s.mono s1) M1 _ fun x m2 vx H2 ⟨i, p, C, fs, ex, hm, c, n, hl, q⟩ s2 M2 r2 => by
    subst ex
    cases r2
    obtain ⟨dx, xs, e, nm, r⟩ := insM_at M2 hm
    obtain ⟨a, b⟩ := putF_rel (f := f) (r1.mono s2) nm r
    have hlen : xs.length = fs.length := by simpa using congrArg List.length nm
    obtain ⟨M3, s3⟩ := set_cell (c' := .ins C (putFD f d fs)) (o := .ins C dx (putF f v xs)) M2 hm ⟨dx, _, upd_same, a, b⟩
    exact ⟨p, C, dx, xs, rfl, e, c, n, by rw [hlen]; exact hl, k.nx δ _ σ _ q (s1.trans (s2.trans s3)) (s.mono (s1.trans (s2.trans s3))) M3⟩
/-- C(..): the new instance is a cell while __init__ runs, then still -/
theorem ew_make {C : Addr} {Pf : FS} {E : XK} {t : TA} {dvs : List V} {dd : List D} (hd : ∀ F, RdL K F dvs dd) (h : AW K t δ m fun ds m1 => ∀ p, Pf (.adr p :: (ds ++ dd)) (m1 ++ [(p, .ins C [])]) fun d m2 => d = .non ∧ ∃ (m3 : Mem) (fs : List (Str × D)), m2 = m3 ++ [(p, .ins C fs)] ∧ Q (.ins C fs) m3) : EW K (tMake C (spOf K Pf) dvs E t) δ m Q := fun σ H s M QQ k =>
  h σ H s M _ fun ds m1 vs H1 q1 s1 M1 r1 => by
    intro x dx hx hdx hne
    have hx2 : upd H1 dx (.own x) x = none := by rw [upd_ne (Ne.symm hne)]; exact hx
    obtain ⟨M2, s2⟩ := M1.new (o := .own x) hdx
    have e : hide (m1 ++ [(x, Cell.ins C [])]) (upd (upd H1 dx (.own x)) x (.ins C dx [])) = hide m1 (upd H1 dx (.own x)) := hide_cell hx2
    have M3 : MemOk K (m1 ++ [(x, Cell.ins C [])]) (upd (upd H1 dx (.own x)) x (.ins C dx [])) := M2.cell (c := .ins C []) hx2 ⟨dx, [], upd_same, rfl, .nil⟩
    have s3 : Sub (hide m1 H1) (hide (m1 ++ [(x, Cell.ins C [])]) (upd (upd H1 dx (.own x)) x (.ins C dx []))) := by rw [e]; exact s2
    refine ⟨.adr x :: (ds ++ dd), m1 ++ [(x, .ins C [])], _, .cons (.adr x) ((r1.mono s3).append (hd _)), M3, q1 x, fun d m' v H' ⟨ed, m4, fs, em, q⟩ s4 M4 r4 => ?_⟩
    subst ed
    subst em
    cases r4
    obtain ⟨M5, sb, hp⟩ := M4.drop
    exact ⟨rfl, k _ m4 _ H' q (s1.trans (s3.trans (s4.trans sb))) M5 (still_of (d := .ins C fs) (M4.at_ x (.ins C fs) (by simp)) rfl sb hp)⟩
theorem ew_prop {C : Addr} {Pf : FS} {E : XK} (h : EW K ta δ m fun x m1 => ∃ fs, x = .ins C fs ∧ Pf [x] m1 Q) : EW K (tProp C (spOf K Pf) [] E ta) δ m Q := fun σ H s M QQ k =>
  h σ H s M _ fun x m1 v H1 ⟨fs, ex, q⟩ s1 M1 r1 => by
    have r1' := r1
    rw [ex] at r1'
    obtain ⟨a, dx, xs, ev, e, nm, r⟩ := ins_at r1'
    subst ev
    exact ⟨a, dx, xs, rfl, e, [x], m1, Q, .cons r1 .nil, M1, q, fun d m' v H' q2 s2 M2 r2 => k d m' v H' q2 (s1.trans s2) M2 r2⟩
/-! ### isinstance -/
def D.tyN : D → Option String
  | .non => some "NoneType"
  | .bl _ => some "bool"
  | .int _ => some "int"
  | .str _ => some "str"
  | .lst _ => some "list"
  | .tup _ => some "tuple"
  | .dic _ => some "dict"
  | _ => none
theorem cw_isi {x : D} {n c : String} {b : Bool} (hx : x.tyN = some n) (hk : kitB n c = some b) (ht : ∀ ds, x ≠ .tup ds) (q : Q (.bl b) m) : CW K (rIsi K) [x, .ty c] m Q := fun H vs M a QQ k => by
  cases a with
  | cons a a2 =>
    cases a2 with
    | cons a2 a3 =>
      cases a3
      cases a2
      have fin := k _ m _ H q (Sub.refl _) M (.bl b)
      cases a with
      | non => cases hx; exact ⟨_, _, _, _, b, rfl, .ty c, .base .non, kit_ty hk, fin⟩
      | bl z => cases hx; exact ⟨_, _, _, _, b, rfl, .ty c, .base (.bl z), kit_ty hk, fin⟩
      | int z => cases hx; exact ⟨_, _, _, _, b, rfl, .ty c, .base (.int z), kit_ty hk, fin⟩
      | str z => cases hx; exact ⟨_, _, _, _, b, rfl, .ty c, .base (.str z), kit_ty hk, fin⟩
      | lst e r => cases hx; exact ⟨_, _, _, _, b, rfl, .ty c, .base (.lst (hide_le _ _ e)), kit_ty hk, fin⟩
      | tup e r => exact absurd rfl (ht _)
      | dic e n r => cases hx; exact ⟨_, _, _, _, b, rfl, .ty c, .base (.dK (hide_le _ _ e)), kit_ty hk, fin⟩
      | _ => cases hx
theorem ew_ty {n : String} (q : Q (.ty n) m) : EW K (tC (.ty n)) δ m Q := fun σ H s M QQ k => k _ m _ H q (Sub.refl _) M (.ty n)
theorem ew_ref {a : Addr} (q : Q (.adr a) m) : EW K (tC (.ref a)) δ m Q := fun σ H s M QQ k => k _ m _ H q (Sub.refl _) M (.adr a)
/-! ### texts -/
theorem cw_join {x : Str} {ys : List Str} (hz : (ys.map (·.length)).sum + ys.length * x.length ≤ 16777216) (q : Q (.str (Txt.join x ys)) m) : MW K (fun v xs H Q => ∃ a p, ∃ ys : List Str, v = .str a ∧ xs = [.ref p] ∧ (SqL K H p (ys.map V.str) ∨ SqT K H p (ys.map V.str)) ∧ (ys.map (·.length)).sum + ys.length * a.length ≤ 16777216 ∧ Q (.str (Txt.join a ys)) H) (.str x) [.lst (ys.map D.str)] m Q := fun H v vs M a b QQ k => by
  cases a
  cases b with
  | cons b b2 =>
    cases b2
    obtain ⟨p, xs, rfl, e, r⟩ := lst_at b
    have := r.strs_v
    subst this
    exact ⟨x, p, ys, rfl, rfl, .inl (SqL.of e), hz, k _ m _ H q (Sub.refl _) M (.str _)⟩
/-! ### xs[::-1] -/
theorem ew_revL {te : TE} (h : EW K te δ m fun x m1 => ∃ ds, x = .lst ds ∧ Q (.lst ds.reverse) m1) : EW K (tRevL K te) δ m Q := fun σ H s M QQ k =>
  h σ H s M _ fun x m1 v H1 ⟨ds, ex, q⟩ s1 M1 r1 => by
    subst ex
    obtain ⟨p, xs, rfl, e, r⟩ := lst_at r1
    refine ⟨p, xs, rfl, SqL.of e, fun z hz => ?_⟩
    obtain ⟨M2, s2, r3⟩ := new_lst M1 r.reverse hz
    exact k _ m1 _ _ q (s1.trans s2) M2 r3
end
end DL

set_option Elab.async false
set_option linter.all false
set_option maxRecDepth 100000
set_option maxHeartbeats 1000000
set_option autoImplicit false
namespace DL
open PySem PySem.Spec PyProof.Rows L2
/-! ### defs, their promises, their calls -/
/-- what stands at a function's address -/
def FdAt (K : PySem.W.Frag) (f : Addr) (fd : FuncData) : Prop := ∃ (oc : Value) (od : Option Addr) (osl : Array (Option Value)), K.lookup f = some ⟨oc, od, .func fd, osl⟩
theorem Fnc.fdAt {K : PySem.W.Frag} {x qual : Str} {st : Stmt} {f : Addr} {fd : FuncData} (F : Fnc K x qual st f fd) : FdAt K f fd := let ⟨oc, od, _, _, _, _, _, _, _, sl, _, _, l⟩ := F.is; ⟨oc, od, sl, l⟩
def Def (P : Program) (w : World) (K : PySem.W.Frag) (mg : Str → Option Value) (base : Heap) (k : Nat) (f : Addr) (ps : List Str) (Pf : FS) : Prop := ∃ fd, FnOk P w K mg base CX0 k f fd ps (spOf K Pf) ∧ Binds K fd ps [] ∧ FdAt K f fd
def DefG (P : Program) (w : World) (K : PySem.W.Frag) (mg : Str → Option Value) (base : Heap) (k : Nat) (f : Addr) (ps : List Str) (Pf : FS) : Prop := ∃ fd, FnG P w K mg base k f fd ps (spOf K Pf) ∧ Binds K fd ps [] ∧ FdAt K f fd
/-- how a def stands behind the top -/
def Has (K : PySem.W.Frag) (x qual : Str) (st : Stmt) (f : Addr) (ps : List Str) : Prop := ∃ fd, Fnc K x qual st f fd ∧ Binds K fd ps []
section
variable {P : Program} {w : World} {K : PySem.W.Frag} {mg : Str → Option Value} {base : Heap} {f : Addr} {ps : List Str} {Pf : FS} {k : Nat}
theorem Def.g (h : Def P w K mg base k f ps Pf) : DefG P w K mg base k f ps Pf := let ⟨fd, F, b⟩ := h; ⟨fd, FnG.of F, b⟩
theorem Def.up {j : Nat} (h : Def P w K mg base j f ps Pf) (l : j ≤ k) : Def P w K mg base k f ps Pf := let ⟨fd, F, b⟩ := h; ⟨fd, F.mono l, b⟩
theorem DefG.up {j : Nat} (h : DefG P w K mg base j f ps Pf) (l : j ≤ k) : DefG P w K mg base k f ps Pf := let ⟨fd, F, b⟩ := h; ⟨fd, F.up l, b⟩
theorem Def.imp {Pf' : FS} (h : Def P w K mg base k f ps Pf) (i : ∀ ds m Q, Pf' ds m Q → Pf ds m Q) : Def P w K mg base k f ps Pf' := let ⟨fd, F, b⟩ := h
  ⟨fd, F.imp fun vs H Q E ⟨ds, m, QS, r, M, p, k⟩ => ⟨ds, m, QS, r, M, i _ _ _ p, k⟩, b⟩
/-- a def's promise from its body -/
theorem defOk {x qual : Str} {st : Stmt} {N : List Str} (h : Has K x qual st f ps) (S : FnScope N ps (defScope st)) {t : TS} (hlen : ∀ ds m Q, Pf ds m Q → ds.length = ps.length)
    (hd : ∀ (cdv : Value) (A : Around) (outer : List Env) (s : Shared) (H : Hp) (E : XK), Room k (A.deeper (envOfC qual (defScope st) s.heap.objs.size f cdv)) → PSs (cxOf CX0 P w K mg base N qual (defScope st) f cdv A outer s H E).nox (defBody st) t)
    (hs : ∀ ds m (Q : D → Mem → Prop), Pf ds m Q → SW K t (startD N.length ds) m { nx := fun _ m' => Q .non m', rt := Q }) : Def P w K mg base (k + 1) f ps Pf := let ⟨fd, F, b⟩ := h; ⟨fd, okD F S hlen hd hs, b, Fnc.fdAt F⟩
theorem defOkG {x qual : Str} {st : Stmt} {N : List Str} (h : Has K x qual st f ps) (S : FnScope N ps (defScope st)) {t : TS} (hlen : ∀ ds m Q, Pf ds m Q → ds.length = ps.length)
    (hd : ∀ (cdv : Value) (A : Around) (outer : List Env) (s : Shared) (H : Hp), A.guards = some [] → Room k (A.deeper (envOfC qual (defScope st) s.heap.objs.size f cdv)) → PSs (cxOf CX0 P w K mg base N qual (defScope st) f cdv A outer s H E0).nox (defBody st) t)
    (hs : ∀ ds m (Q : D → Mem → Prop), Pf ds m Q → SW K t (startD N.length ds) m { nx := fun _ m' => Q .non m', rt := Q }) : DefG P w K mg base (k + 1) f ps Pf := let ⟨fd, F, b⟩ := h; ⟨fd, okG F S hlen hd hs, b, Fnc.fdAt F⟩
end
section
variable {X : Cx} {k : Nat} {f C : Addr} {ps : List Str} {Pf : FS} {x : Str} {p pos : Pos} {e : Expr} {es : List Expr} {t : TA} {ta : TE}
theorem pe_def (D : Def X.prog X.w X.K X.mg X.base k f ps Pf) (hr : Room k X.A) (hg : Gl X x) (hm : X.mg x = some (.ref f)) (hk : PySem.W.keepIn X.K (.ref f) = true) (ha : PA X (e :: es) t)
    (hdb : (x == ("__debug__" : Str)) = false := by decide) (he : starEach (e :: es) X.env = (false, eval e X.env) :: starEach es X.env := by rfl) (hpl : (backTo pos (starEach es X.env)).any (·.1) = false := by rfl) :
    PE X (.Call (.Name x p) (e :: es) [] pos) (tCall (spOf X.K Pf) [] E0 t) := let ⟨_, F, b, _⟩ := D; pe_call F hr hg hm hk b .nil pass0 ha hdb he hpl
theorem pe_defG (hg0 : X.A.guards = some []) (D : DefG X.prog X.w X.K X.mg X.base k f ps Pf) (hr : Room k X.A) (hg : Gl X x) (hm : X.mg x = some (.ref f)) (hk : PySem.W.keepIn X.K (.ref f) = true) (ha : PA X (e :: es) t)
    (hdb : (x == ("__debug__" : Str)) = false := by decide) (he : starEach (e :: es) X.env = (false, eval e X.env) :: starEach es X.env := by rfl) (hpl : (backTo pos (starEach es X.env)).any (·.1) = false := by rfl) :
    PE X (.Call (.Name x p) (e :: es) [] pos) (tCall (spOf X.K Pf) [] E0 t) := let ⟨_, F, b, _⟩ := D; pe_callG hg0 F hr hg hm hk b .nil ha hdb he hpl
theorem pe_propD {nm : Str} (he : PE X e ta) (c : Cls X.K C) (hp : ∃ q, PropOf X.K C nm q f) (D : Def X.prog X.w X.K X.mg X.base k f ps Pf) (hr : Room (k + 1) X.A) (hab : attributeBase e nm X.env (eval e X.env) = eval e X.env) :
    PE X (.Attribute e nm pos) (tProp C (spOf X.K Pf) [] E0 ta) := let ⟨_, F, b, _⟩ := D; let ⟨_, q⟩ := hp; pe_prop he c q F hr b .nil pass0 hab
end
/-! ### wide arithmetic -/
def CPowW (i j : Int) : Prop := 0 ≤ j ∧ (Builtin.Int.intBits i : Int) * j ≤ 2 ^ 27
theorem op_powW {X : Cx} : OpR X (binaryOp .Pow) (rI CPowW fun i j => .int (i ^ j.toNat)) := opI fun i j _ _ _ _ _ hc q => pow_int hc.1 hc.2 q
theorem op_mulS {X : Cx} : OpR X (binaryOp .Mult) (fun x y H Q => ∃ (z : Str) (n : Int), x = .str z ∧ y = .int n ∧ PySem.MulOk z n ∧ Q (.str (Txt.mul z n)) H) := by
  intro pins s σ H x y v u Q I rx ry h
  obtain ⟨z, n, rfl, rfl, hk, q⟩ := h
  obtain ⟨t1, rfl⟩ := rx
  obtain ⟨t2, rfl⟩ := ry
  exact SB.mul hk fun t' k => ⟨.str (Txt.mul z n), H, I.tok _, ⟨_, rfl⟩, q⟩
def rMulS : R2 := fun x y H Q => ∃ (z : Str) (n : Int), x = .str z ∧ y = .int n ∧ PySem.MulOk z n ∧ Q (.str (Txt.mul z n)) H
def rMulU : R2 := fun x y H Q => rI CMul (fun i j => .int (i * j)) x y H Q ∨ (rI CMulW (fun i j => .int (i * j)) x y H Q ∨ rMulS x y H Q)
theorem op_mulU {X : Cx} : OpR X (binaryOp .Mult) rMulU := OpR.or op_mul (OpR.or op_mulW op_mulS)
section
variable {K : PySem.W.Frag} {δ : List (Option D)} {m : Mem} {Q : D → Mem → Prop} {te ta tb tc : TE} {F : Hp} {P : Ps} {t u : TS} {tt : TT} {g : TG} {wi : TI}
theorem ow_mul1 {i j : Int} (h : -(2 ^ 64) < j ∧ j < 2 ^ 64) (q : Q (.int (i * j)) m) : OW K rMulU (.int i) (.int j) m Q := ow_or1 (ow_ic (g := fun i j => i * j) (.inr h) q)
theorem ow_mul2 {i j : Int} (h : -(2 ^ 64) < i ∧ i < 2 ^ 64) (q : Q (.int (i * j)) m) : OW K rMulU (.int i) (.int j) m Q := ow_or1 (ow_ic (g := fun i j => i * j) (.inl h) q)
/-! ### a dict comprehension -/
theorem ew_dc {tk tv : TE} {vs : List Nat} (tm : Tame g vs) (h : IW K wi δ m fun ds m1 => ∃ Iv : Nat → List (Key × D) → Mem → Prop, Iv 0 [] m1 ∧
      (∀ (j : Nat) (d : D) (acc : List (Key × D)) (m' : Mem) (z : Addr), ds[j]? = some d → Iv j acc m' → acc.length < sizeLine ∧ GW K g d (wipeD δ vs) (m' ++ [(z, .dic acc)]) fun δ2 m2 => TW K tt δ2 m2 fun b m3 =>
        if b = true then EW K tk δ2 m3 fun y m4 => EW K tv δ2 m4 fun x m5 => ∃ (k : Key) (m6 : Mem), y = kD k ∧ m5 = m6 ++ [(z, .dic acc)] ∧ Iv (j + 1) (putD acc k x) m6 else ∃ m5, m3 = m5 ++ [(z, .dic acc)] ∧ Iv (j + 1) acc m5) ∧
      (∀ (acc : List (Key × D)) (m' : Mem), Iv ds.length acc m' → Q (.dic acc) m')) : EW K (tDc wi g tt tk tv vs) δ m Q := fun σ H s M QQ k =>
  h σ H s M _ fun J H1 m1 ds ⟨Iv, h0, hs, hd⟩ s1 M1 fe => by
    intro z hz
    have base : Sub (hide m1 H1) (hide (m1 ++ [(z, .dic [])]) (upd H1 z (.dK []))) := by
      rw [hide_cell hz]
      exact Sub.refl _
    refine ⟨fun i n H' => n = ds.length - i ∧ i ≤ ds.length ∧ ∃ acc m', Iv i acc m' ∧ Sub (hide m1 H1) (hide (m' ++ [(z, .dic acc)]) H') ∧ MemOk K (m' ++ [(z, .dic acc)]) H', ⟨ds.length, rfl, Nat.zero_le _, [], m1, h0, base, M1.cell (c := .dic []) hz ⟨[], upd_same, rfl, .nil⟩⟩, ?_⟩
    rintro i n H' ⟨rfl, hi, acc, m', hI, s2, M2⟩
    by_cases hlt : i < ds.length
    · refine .inr ⟨fe.go i _ H' s2 M2 hlt, fun H3 => ∃ acc m3, Iv (i + 1) acc m3 ∧ Sub (hide m1 H1) (hide (m3 ++ [(z, .dic acc)]) H3) ∧ MemOk K (m3 ++ [(z, .dic acc)]) H3, fun H3 q => ⟨ds.length - (i + 1), by omega, rfl, hlt, q⟩, fun x H3 y => ?_⟩
      have hdi : ds[i]? = some ds[i] := List.getElem?_eq_getElem hlt
      obtain ⟨s3, M3, r3⟩ := fe.yld i _ H' x H3 _ s2 M2 hdi y
      obtain ⟨hl, step⟩ := hs i _ acc m' z hdi hI
      have sb : Sub (hide m H) (hide (m' ++ [(z, .dic acc)]) H3) := s1.trans (s2.trans s3)
      refine tm x σ (wipe σ vs) H3 _ (wipe_idem σ vs) ?_
      refine step (wipe σ vs) H3 x ((s.mono sb).wipe vs) M3 r3 _ fun δ4 m4 σ4 H4 q4 s4 S4 M4 => ?_
      refine q4 σ4 H4 S4 M4 _ fun b m5 H5 q5 s5 M5 => ?_
      cases b with
      | true =>
        have q5' : EW K tk δ4 m5 fun y m4 => EW K tv δ4 m4 fun x m5 => ∃ (k : Key) (m6 : Mem), y = kD k ∧ m5 = m6 ++ [(z, .dic acc)] ∧ Iv (i + 1) (putD acc k x) m6 := q5
        refine q5' σ4 H5 (S4.mono s5) M5 _ fun yd m6 yv H6 q6 s6 M6 r6 => ?_
        refine q6 σ4 H6 (S4.mono (s5.trans s6)) M6 _ fun xd m7 xv H7 q7 s7 M7 r7 => ?_
        obtain ⟨kk, m8, ek, e8, hI8⟩ := q7
        subst ek
        subst e8
        have ev := kD_v r6
        subst ev
        have hm : (m8 ++ [(z, Cell.dic acc)])[m8.length]? = some (z, Cell.dic acc) := by simp
        obtain ⟨xs, ex, nx, rx⟩ := dicM_at M7 hm
        have es : (m8 ++ [(z, Cell.dic acc)]).set m8.length (z, Cell.dic (putD acc kk xd)) = m8 ++ [(z, Cell.dic (putD acc kk xd))] := by
          rw [List.set_append_right _ _ (Nat.le_refl _), Nat.sub_self]
          rfl
        have eh : hide (m8 ++ [(z, Cell.dic (putD acc kk xd))]) (upd H7 z (.dK (putK xs kk xv))) = hide (m8 ++ [(z, Cell.dic acc)]) H7 := by
          rw [← es]
          exact hide_set hm
        obtain ⟨na, nb⟩ := putD_rel (k := kk) r7 nx rx
        refine ⟨xs, kk, rfl, ex, by have e1 : xs.length = acc.length := by simpa using congrArg List.length nx
                                    rw [e1]; exact hl, putD acc kk xd, m8, hI8, ?_, ?_⟩
        · rw [eh]
          exact s2.trans (s3.trans (s4.trans (s5.trans (s6.trans s7))))
        · rw [← es]
          exact M7.set hm ⟨_, upd_same, na, nb⟩
      | false =>
        have q5' : ∃ m6, m5 = m6 ++ [(z, .dic acc)] ∧ Iv (i + 1) acc m6 := q5
        obtain ⟨m7, e7, hI7⟩ := q5'
        subst e7
        exact ⟨acc, m7, hI7, s2.trans (s3.trans (s4.trans s5)), M5⟩
    · have e : i = ds.length := by omega
      subst e
      refine .inl ⟨fe.stop _ H' s2 M2, ?_⟩
      obtain ⟨M3, sb, hp⟩ := M2.drop
      exact k (.dic acc) m' (.ref z) H' (hd acc m' hI) (s1.trans (s2.trans sb)) M3 (still_of (d := .dic acc) (M2.at_ z (.dic acc) (by simp)) rfl sb hp)
/-- {k: v}, written, one entry, a cell -/
theorem ew_disp1M {tk tv : TE} (h : ∀ p, EW K tk δ (m ++ [(p, .dic [])]) fun y m1 => EW K tv δ m1 fun x m2 => ∃ (k : Key) (m3 : Mem), y = kD k ∧ m2 = m3 ++ [(p, .dic [])] ∧ Q (.adr p) (m3 ++ [(p, .dic [(k, x)])])) : EW K (tDisp [(tk, tv)]) δ m Q := fun σ H s M QQ k => fun p hp => by
  have e : hide (m ++ [(p, Cell.dic [])]) (upd H p (.dK [])) = hide m H := hide_cell hp
  have M1 : MemOk K (m ++ [(p, Cell.dic [])]) (upd H p (.dK [])) := M.cell (c := .dic []) hp ⟨[], upd_same, rfl, .nil⟩
  have s1 : Sub (hide m H) (hide (m ++ [(p, Cell.dic [])]) (upd H p (.dK []))) := by rw [e]; exact Sub.refl _
  show tk σ (upd H p (.dK [])) fun k1 H1 => tv σ H1 fun v1 H2 => tPairs [] σ H2 fun ps H3 => H3 p = some (.dK []) ∧ ∃ kvs : List (Key × V), (k1, v1) :: ps = kvs.map (fun kv => (kV kv.1, kv.2)) ∧ kvs.length ≤ 15 ∧ QQ (.ref p) (upd H3 p (.dK (mergeK [] kvs)))
  refine h p σ _ (s.mono s1) M1 _ fun yd m2 yv H2 q2 s2 M2 r2 => ?_
  refine q2 σ H2 (s.mono (s1.trans s2)) M2 _ fun xd m3 xv H3 ⟨kk, m4, ek, em, q⟩ s3 M3 r3 => ?_
  subst ek
  subst em
  have ev := kD_v r2
  subst ev
  have hm : (m4 ++ [(p, Cell.dic [])])[m4.length]? = some (p, Cell.dic []) := by simp
  obtain ⟨xs, ex, nx, rx⟩ := dicM_at M3 hm
  have e0 : xs = [] := by
    cases xs with
    | nil => rfl
    | cons => simp at nx
  subst e0
  have es : (m4 ++ [(p, Cell.dic [])]).set m4.length (p, Cell.dic [(kk, xd)]) = m4 ++ [(p, Cell.dic [(kk, xd)])] := by
    rw [List.set_append_right _ _ (Nat.le_refl _), Nat.sub_self]
    rfl
  obtain ⟨M5, s5⟩ := set_cell (c' := .dic [(kk, xd)]) (o := .dK [(kk, xv)]) M3 hm ⟨[(kk, xv)], upd_same, rfl, .cons r3 .nil⟩
  rw [es] at M5 s5
  exact ⟨ex, [(kk, xv)], rfl, by simp, k (.adr p) _ (.ref p) _ q (s1.trans (s2.trans (s3.trans s5))) M5 (.adr p)⟩
end
end DL

set_option Elab.async false
set_option linter.all false
set_option maxRecDepth 100000
set_option maxHeartbeats 1000000
set_option autoImplicit false
namespace DL
open PySem PySem.Spec PyProof.Rows L2
/-! ### the rules, with the written part by its own name -/
section
variable {X : Cx} (K : PySem.W.Frag) (hK : X.K = K)
include hK
theorem kx_ix (hu : X.A.units + 64 < cLine) : IxR X (rIxU K) := by subst hK; exact ix_U hu
theorem kx_sl : SlR X (rSlU K) := by subst hK; exact sl_U
theorem kx_in (P : Program) (w : World) (hP : X.prog = P) (hw : X.w = w) (hu : X.A.units + 64 < cLine) : OpR X (compareOp .In) (rInU P w K) := by subst hK; subst hP; subst hw; exact op_inU hu
theorem kx_notIn (P : Program) (w : World) (hP : X.prog = P) (hw : X.w = w) (hu : X.A.units + 64 < cLine) : OpR X (compareOp .NotIn) (rNotInU P w K) := by subst hK; subst hP; subst hw; exact op_notInU hu
theorem kx_len : CallR X (.builtin "len") (rLenU K) := by subst hK; exact cr_lenU
theorem kx_list : CallR X (.type "list") (rListU K) := by subst hK; exact cr_listU
theorem kx_all (hc : X.calm = true) : CallR X (.builtin "all") (rAll K) := by subst hK; exact cr_all hc
theorem kx_isi : CallR X (.builtin "isinstance") (rIsi K) := by subst hK; exact call_isi
theorem kx_index (hu : X.A.units + 65 < cLine) : MtR X "list.index" (rIndexD K) := by subst hK; exact mt_indexD hu
def rJoin (K : PySem.W.Frag) : V → List V → Hp → VK → Prop := fun v xs H Q => ∃ a p, ∃ ys : List Str, v = .str a ∧ xs = [.ref p] ∧ (SqL K H p (ys.map V.str) ∨ SqT K H p (ys.map V.str)) ∧ (ys.map (·.length)).sum + ys.length * a.length ≤ 16777216 ∧ Q (.str (Txt.join a ys)) H
theorem kx_join : MtR X "str.join" (rJoin K) := by subst hK; exact mt_join
theorem kx_pi {tg l : Expr} {tl : TE} (hl : PE X l tl) : PI X tg l (iAny K tl) := by subst hK; exact pi_any hl
theorem kx_enum {e : Expr} {ta : TA} {p pos tpos : Pos} {elts : List Expr} {kk : Nat} (hg : Gl X "enumerate") (hm : X.mg "enumerate" = none) (ha : PA X [e] ta) (hs : starEach [e] X.env = [(false, eval e X.env)] := by rfl) :
    PI X (.Tuple elts kk tpos) (.Call (.Name "enumerate" p) [e] [] pos) (iEnum K ta) := by subst hK; exact pi_enum hg hm ha hs
theorem kx_fld {e : Expr} {ta : TE} {f : Str} {pos : Pos} (ha : PE X e ta) (hb : attributeBase e f X.env (eval e X.env) = eval e X.env := by rfl) : PE X (.Attribute e f pos) (tFld K ta f) := by subst hK; exact pe_fld ha hb
theorem kx_set {o e : Expr} {ta tv : TE} {f : Str} {apos pos : Pos} (ha : PE X o ta) (hv : PE X e tv) (hs : swapsWith e (some (.Attribute o f apos)) pos.line X.env = pure false := by rfl) : PS X (.Assign [.Attribute o f apos] e pos) (sFld K ta tv f) := by subst hK; exact ps_fld ha hv hs
theorem kx_bm {T name : String} {id : String} {r : V → List V → Hp → VK → Prop} {o e : Expr} {es : List Expr} {to : TE} {t : TA} {apos cpos : Pos} (pa : PlainAttrs T) (slot : Slot T name id) (hty : typeOf (.builtin id) = pure (.type "method_descriptor")) (hm : MtR X id r) (ho : PE X o to) (ha : PA X (e :: es) t)
    (hbase : attributeBase o name X.env (eval o X.env) = eval o X.env := by rfl)
    (hfew : ((backTo cpos (starEach (e :: es) X.env)).all (fun x => !x.1) && (backToKw cpos (keywordEach [] X.env)).all (fun x => x.1.isSome)
      && decide ((e :: es).length + ([] : List Keyword).length + (if ([] : List Keyword).isEmpty then 0 else 1) < 30)) = true := by rfl)
    (hline : (apos.endLine == cpos.line) = true := by rfl) (hs : starEach (e :: es) X.env = (false, eval e X.env) :: starEach es X.env := by rfl) (hplain : (backTo cpos (starEach es X.env)).any (·.1) = false := by rfl) :
    PE X (.Call (.Attribute o name apos) (e :: es) [] cpos) (tBM K T r to t) := by subst hK; exact pe_bm pa slot hty hm ho ha hbase hfew hline hs hplain
theorem kx_tup {es : List Expr} {kk : Nat} {pos : Pos} {t : TGs} {n : Nat} (hc : X.calm = true) (h : PGs X es t) (hn : (assignEach es X.env).length = n := by rfl) (hst : (assignEach es X.env).findIdx? (·.1) = none := by rfl) : PG X (.Tuple es kk pos) (gTup K n t) := by subst hK; exact pg_tup hc h hn hst
theorem kx_set0 (P : Program) (w : World) (hP : X.prog = P) (hw : X.w = w) : CallR X (.type "set") (rSet0K P w) := by subst hP; subst hw; exact cr_set0K
theorem kx_sadd {o e : Expr} {es : List Expr} {to : TE} {t : TA} {apos cpos : Pos} (P : Program) (w : World) (hP : X.prog = P) (hw : X.w = w) (ho : PE X o to) (ha : PA X (e :: es) t)
    (h1 : attributeBase o "add" X.env (eval o X.env) = eval o X.env := by rfl)
    (h2 : ((backTo cpos (starEach (e :: es) X.env)).all (fun x => !x.1) && (backToKw cpos (keywordEach [] X.env)).all (fun x => x.1.isSome)
      && decide ((e :: es).length + ([] : List Keyword).length + (if ([] : List Keyword).isEmpty then 0 else 1) < 30)) = true := by rfl)
    (h3 : (apos.endLine == cpos.line) = true := by rfl) (h4 : starEach (e :: es) X.env = (false, eval e X.env) :: starEach es X.env := by rfl) (h5 : (backTo cpos (starEach es X.env)).any (·.1) = false := by rfl) :
    PE X (.Call (.Attribute o "add" apos) (e :: es) [] cpos) (tSAddK P w to t) := by subst hP; subst hw; exact pe_saddK ho ha h1 h2 h3 h4 h5
section
variable {k : Nat} {f C : Addr} {ps : List Str} {Pf : FS} {x : Str} {p pos : Pos} {e : Expr} {es : List Expr} {t : TA} {ta : TE}
theorem kx_def (D : Def X.prog X.w X.K X.mg X.base k f ps Pf) (hr : Room k X.A) (hg : Gl X x) (hm : X.mg x = some (.ref f)) (hk : PySem.W.keepIn X.K (.ref f) = true) (ha : PA X (e :: es) t)
    (hdb : (x == ("__debug__" : Str)) = false := by decide) (he : starEach (e :: es) X.env = (false, eval e X.env) :: starEach es X.env := by rfl) (hpl : (backTo pos (starEach es X.env)).any (·.1) = false := by rfl) :
    PE X (.Call (.Name x p) (e :: es) [] pos) (tCall (spOf K Pf) [] E0 t) := by subst hK; exact pe_def D hr hg hm hk ha hdb he hpl
theorem kx_defG (hg0 : X.A.guards = some []) (D : DefG X.prog X.w X.K X.mg X.base k f ps Pf) (hr : Room k X.A) (hg : Gl X x) (hm : X.mg x = some (.ref f)) (hk : PySem.W.keepIn X.K (.ref f) = true) (ha : PA X (e :: es) t)
    (hdb : (x == ("__debug__" : Str)) = false := by decide) (he : starEach (e :: es) X.env = (false, eval e X.env) :: starEach es X.env := by rfl) (hpl : (backTo pos (starEach es X.env)).any (·.1) = false := by rfl) :
    PE X (.Call (.Name x p) (e :: es) [] pos) (tCall (spOf K Pf) [] E0 t) := by subst hK; exact pe_defG hg0 D hr hg hm hk ha hdb he hpl
theorem kx_prop {nm : Str} (he : PE X e ta) (c : Cls X.K C) (hp : ∃ q, PropOf X.K C nm q f) (D : Def X.prog X.w X.K X.mg X.base k f ps Pf) (hr : Room (k + 1) X.A) (hab : attributeBase e nm X.env (eval e X.env) = eval e X.env) :
    PE X (.Attribute e nm pos) (tProp C (spOf K Pf) [] E0 ta) := by subst hK; exact pe_propD he c hp D hr hab
/-- C(e, ..), every parameter given -/
theorem kx_make (M : Mk X.K C f) (D : Def X.prog X.w X.K X.mg X.base k f ps Pf) (hr : Room (k + 1) X.A) (hg : Gl X x) (hm : X.mg x = some (.ref C)) (ha : PA X (e :: es) t)
    (hdb : (x == ("__debug__" : Str)) = false := by decide) (he : starEach (e :: es) X.env = (false, eval e X.env) :: starEach es X.env := by rfl) (hpl : (backTo pos (starEach es X.env)).any (·.1) = false := by rfl) :
    PE X (.Call (.Name x p) (e :: es) [] pos) (tMake C (spOf K Pf) [] E0 t) := by
  subst hK
  obtain ⟨fd, F, b, _⟩ := D
  exact pe_make M F hr hg hm b .nil pass0 ha hdb he hpl
end
end
end DL

set_option Elab.async false
set_option linter.all false
set_option maxRecDepth 100000
set_option maxHeartbeats 1000000
set_option autoImplicit false
namespace DL
open PySem PySem.Spec PyProof.Rows L2
theorem iteD {c : Prop} [Decidable c] {A B : Prop} (h1 : c → A) (h2 : ¬ c → B) : if decide c = true then A else B := by
  by_cases h : c
  · rw [decide_eq_true h, if_pos rfl]; exact h1 h
  · rw [decide_eq_false h, if_neg Bool.false_ne_true]; exact h2 h
theorem iteN {c : Prop} [Decidable c] {A B : Prop} (h1 : ¬ c → A) (h2 : c → B) : if (!decide c) = true then A else B := by
  by_cases h : c
  · rw [decide_eq_true h]; exact h2 h
  · rw [decide_eq_false h]; exact h1 h
theorem iteB {b : Bool} {A B : Prop} (h1 : b = true → A) (h2 : b = false → B) : if b = true then A else B := by
  cases b
  · exact h2 rfl
  · exact h1 rfl
/-! ### the walk over a reading: one step; a choice is left to whoever calls -/
local macro_rules | `(tactic| walk_at "s1") => `(tactic| with_reducible first
  | refine sw_seq ?_ | refine sw_next ?_ | refine sw_ret ?_ | refine sw_retN ?_ | refine sw_if ?_ | refine sw_asg ?_ | refine sw_asgG ?_ | refine sw_drop ?_ | refine sw_break ?_ | refine sw_cont ?_ | refine sw_par ?_ | refine sw_par3 ?_
  | refine tw_test ?_ | refine tw_B ?_ | refine tw_and ?_ | refine tw_or ?_ | refine tw_not ?_
  | refine ew_op ?_ | refine ew_un ?_ | refine ew_int ?_ | refine ew_non ?_ | refine ew_bl ?_ | refine ew_str ?_ | refine ew_ty ?_ | refine ew_ref ?_ | refine ew_cb ?_ | refine ew_if ?_ | refine ew_andV ?_ | refine ew_orV ?_ | refine ew_notV ?_ | refine ew_chain ?_ | refine ew_sl ?_ | refine pw_no ?_ | refine pw_part ?_
  | refine aw_nil ?_ | refine aw_cons ?_ | refine ew_bm ?_ | refine ew_bm0 ?_ | refine gw_setL ?_
  | refine gs_nil ?_ | refine gs_cons ?_ | refine gw_name ?_
  | refine ow_addI ?_ | refine ow_i0 ?_ | refine ow_b0 ?_ | refine ow_eqI ?_ | refine ow_neI ?_ | refine ow_isN ?_ | refine ow_notN ?_ | refine uw_neg ?_ | refine cw_int ?_ | refine cw_intB ?_ | refine cw_abs ?_ | refine cw_mx2 ?_ | refine cw_mn2 ?_)
local macro_rules | `(tactic| walk_at "s2") => `(tactic| first
  | (refine ew_var (by rfl) ?_)
  | (refine ⟨_, rfl, ?_⟩)
  | (refine ⟨_, _, rfl, ?_⟩)
  | (refine ⟨_, _, _, rfl, ?_⟩))
local macro_rules | `(tactic| walk_at "s") => `(tactic| repeat (first | walk_at "s1" | walk_at "s2"))
end DL

set_option Elab.async false
set_option linter.all false
set_option maxRecDepth 100000
set_option maxHeartbeats 1000000
set_option autoImplicit false
/-! Cells looked up and written by their addresses; == of data without booleans; what is shown. -/
namespace DL
open PySem PySem.Spec PyProof.Rows L2
theorem lt_sz {n : Nat} (h : n < 16777216) : n < sizeLine := h
theorem le_sz {n : Nat} (h : n ≤ 16777216) : n ≤ sizeLine := h
/-- at p stands c -/
def MAt (m : Mem) (p : Addr) (c : Cell) : Prop := ∃ i : Nat, m[i]? = some (p, c)
/-- at p stands c; written with c' it is m' -/
def MUp (m : Mem) (p : Addr) (c c' : Cell) (m' : Mem) : Prop := ∃ i : Nat, m[i]? = some (p, c) ∧ m' = m.set i (p, c')
section
variable {m m' l : Mem} {p : Addr} {c c' : Cell} {x : Addr × Cell}
theorem MAt.zero : MAt ((p, c) :: l) p c := ⟨0, rfl⟩
theorem MAt.cons (h : MAt l p c) : MAt (x :: l) p c := let ⟨i, h⟩ := h; ⟨i + 1, by simpa using h⟩
theorem MAt.last : MAt (l ++ [(p, c)]) p c := ⟨l.length, by simp⟩
theorem MAt.app {r : Mem} (h : MAt l p c) : MAt (l ++ r) p c := let ⟨i, h⟩ := h; ⟨i, by rw [List.getElem?_append_left (by have := List.getElem?_eq_some_iff.mp h; exact this.1)]; exact h⟩
theorem MUp.zero : MUp ((p, c) :: l) p c c' ((p, c') :: l) := ⟨0, rfl, rfl⟩
theorem MUp.cons (h : MUp l p c c' m') : MUp (x :: l) p c c' (x :: m') := let ⟨i, h, e⟩ := h; ⟨i + 1, by simpa using h, by rw [e]; rfl⟩
theorem MUp.last : MUp (l ++ [(p, c)]) p c c' (l ++ [(p, c')]) := ⟨l.length, by simp, by rw [List.set_append_right _ _ (Nat.le_refl _), Nat.sub_self]; rfl⟩
theorem MUp.app {r : Mem} (h : MUp l p c c' m') : MUp (l ++ r) p c c' (m' ++ r) := let ⟨i, h, e⟩ := h; by
  have hi : i < l.length := (List.getElem?_eq_some_iff.mp h).1
  exact ⟨i, by rw [List.getElem?_append_left hi]; exact h, by rw [e, List.set_append_left _ _ hi]⟩
end
section
variable {K : PySem.W.Frag} {δ : List (Option D)} {m : Mem} {Q : D → Mem → Prop} {te ta tb tc : TE} {p : Addr} {ds : List D}
theorem oi_L {i : Int} {d : D} (h : L2.atI ds i = some d) (q : Q d m) : OW K (rIxU K) (.lst ds) (.int i) m Q := ow_ixL h q
theorem oi_M {i : Int} {d : D} (hm : MAt m p (.lst ds)) (h : L2.atI ds i = some d) (q : Q d m) : OW K (rIxU K) (.adr p) (.int i) m Q := let ⟨_, hm⟩ := hm; ow_ixM hm h q
theorem cl_M (hm : MAt m p (.lst ds)) (q : Q (.int (ds.length : Nat)) m) : CW K (rLenU K) [.adr p] m Q := let ⟨_, hm⟩ := hm; cw_lenM hm q
theorem ci_M (hm : MAt m p (.lst ds)) (q : Q (.lst ds) m) : CW K (rListU K) [.adr p] m Q := let ⟨_, hm⟩ := hm; cw_listM hm q
theorem ma_app {d : D} {m' : Mem} (hm : MUp m p (.lst ds) (.lst (ds ++ [d])) m') (hl : ds.length < sizeLine) (q : Q .non m') : MW K rAppend (.adr p) [d] m Q := let ⟨_, hm, e⟩ := hm; mw_append hm hl (e ▸ q)
theorem ty_A (hm : MAt m p (.lst ds)) : ∀ (H : Hp) (v : V), MemOk K m H → Rd K (hide m H) v (.adr p) → tyV K "list" v H := let ⟨_, hm⟩ := hm; ty_M hm
theorem gs_L {d : D} {R : List (Option D) → Mem → Prop} (h : EW K ta δ m fun x m1 => EW K tb δ m1 fun y m2 => ∃ p ds n j m3, x = .adr p ∧ y = .int n ∧ MUp m2 p (.lst ds) (.lst (ds.set j d)) m3 ∧ ixN ds.length n = some j ∧ R δ m3) : GW K (gSub ta tb rSetL) d δ m R :=
  gw_setL (fun σ H s M QQ k => h σ H s M QQ fun x m1 v H1 q s1 M1 r1 => k x m1 v H1 (fun σ H s M QQ k => q σ H s M QQ fun y m2 v H2 ⟨p, ds, n, j, m3, ex, ey, ⟨i, hm, em⟩, hj, q⟩ s2 M2 r2 => k y m2 v H2 ⟨i, p, ds, n, j, ex, ey, hm, hj, em ▸ q⟩ s2 M2 r2) s1 M1 r1)
end
/-! ### == of data without booleans -/
def D.nb : Nat → D → Bool
  | _, .non => true
  | _, .int _ => true
  | _, .str x => PyData.strOk x
  | n + 1, .lst xs => xs.all (D.nb n)
  | n + 1, .tup xs => xs.all (D.nb n)
  | _, _ => false
theorem nb_fl : ∀ (n : Nat) (d : D), d.nb n = true → d.fl n = true := by
  intro n
  induction n with
  | zero => intro d h; cases d <;> simp_all [D.nb, D.fl]
  | succ n ih =>
    have all : ∀ ds : List D, ds.all (D.nb n) = true → ds.all (D.fl n) = true := by
      intro ds h
      rw [List.all_eq_true] at h ⊢
      exact fun d hd => ih d (h d hd)
    intro d h
    cases d with
    | lst xs => exact all xs h
    | tup xs => exact all xs h
    | _ => simp_all [D.nb, D.fl]
theorem eqv_nb : ∀ (n : Nat) (d e : D), d.nb n = true → e.nb n = true → (PyData.eqv d.py e.py = true ↔ d = e) := by
  intro n
  induction n with
  | zero =>
    intro d e h h'
    cases d <;> cases e <;> simp_all [D.nb, D.py, PyData.eqv]
  | succ n ih =>
    have all : ∀ ds es : List D, ds.all (D.nb n) = true → es.all (D.nb n) = true → (PyData.eqvAll (D.pyL ds) (D.pyL es) = true ↔ ds = es) := by
      intro ds
      induction ds with
      | nil => intro es _ _; cases es <;> simp [D.pyL, PyData.eqvAll]
      | cons d ds ihl =>
        intro es h h'
        cases es with
        | nil => simp [D.pyL, PyData.eqvAll]
        | cons e es =>
          rw [List.all_cons, Bool.and_eq_true] at h h'
          simp only [D.pyL, PyData.eqvAll, Bool.and_eq_true, List.cons.injEq, ih d e h.1 h'.1, ihl es h.2 h'.2]
    intro d e h h'
    cases d with
    | lst xs =>
      cases e with
      | lst ys => simpa only [D.py, PyData.eqv, D.lst.injEq] using all xs ys h h'
      | _ => simp_all [D.nb, D.py, PyData.eqv]
    | tup xs =>
      cases e with
      | tup ys => simpa only [D.py, PyData.eqv, D.tup.injEq] using all xs ys h h'
      | _ => simp_all [D.nb, D.py, PyData.eqv]
    | _ => cases e <;> simp_all [D.nb, D.py, PyData.eqv]
def rEqU (K : PySem.W.Frag) : R2 := fun x y H Q => rEqD K x y H Q ∨ rEq x y H Q
def rNeU (K : PySem.W.Frag) : R2 := fun x y H Q => rNeD K x y H Q ∨ rNe x y H Q
section
variable {X : Cx} (K : PySem.W.Frag) (hK : X.K = K)
include hK
theorem kx_eqU (hu : X.A.units + 64 < cLine) : OpR X (compareOp .Eq) (rEqU K) := by subst hK; exact OpR.or (op_eqD hu) op_eq
theorem kx_neU (hu : X.A.units + 64 < cLine) : OpR X (compareOp .NotEq) (rNeU K) := by subst hK; exact OpR.or (op_neD hu) op_ne
end
section
variable {K : PySem.W.Frag} {δ : List (Option D)} {m : Mem} {Q : D → Mem → Prop}
theorem oq_eqI {i j : Int} (q : Q (.bl (decide (i = j))) m) : OW K (rEqU K) (.int i) (.int j) m Q := ow_or1 (ow_eqI q)
theorem oq_neI {i j : Int} (q : Q (.bl (!decide (i = j))) m) : OW K (rNeU K) (.int i) (.int j) m Q := ow_or1 (ow_neI q)
theorem oq_eqS {i j : Str} (q : Q (.bl (decide (i = j))) m) : OW K (rEqU K) (.str i) (.str j) m Q := ow_or2 fun H v w M a b QQ k => by
  cases a
  cases b
  exact ⟨rfl, k _ m _ H q (Sub.refl _) M (by have : decide (V.str i = V.str j) = decide (i = j) := by simp
                                             first | (rw [this]; exact .bl _) | exact .bl _)⟩
theorem oq_neS {i j : Str} (q : Q (.bl (!decide (i = j))) m) : OW K (rNeU K) (.str i) (.str j) m Q := ow_or2 fun H v w M a b QQ k => by
  cases a
  cases b
  exact ⟨rfl, k _ m _ H q (Sub.refl _) M (by have : decide (V.str i = V.str j) = decide (i = j) := by simp
                                             first | (rw [this]; exact .bl _) | exact .bl _)⟩
theorem oq_eq (n : Nat) {x y : D} (hx : x.nb n = true) (hy : y.nb n = true) (q : ∀ b : Bool, (b = true ↔ x = y) → Q (.bl b) m) (hn : n ≤ 64 := by decide) : OW K (rEqU K) x y m Q :=
  ow_or1 (ow_eq hn (nb_fl n x hx) (nb_fl n y hy) (q _ (eqv_nb n x y hx hy)))
end
/-! ### what is shown -/
def rRepr (K : PySem.W.Frag) : List V → Hp → VK → Prop := fun xs H Q => ∃ a d, xs = [V.ref a] ∧ Dp K H (.ref a) d ∧ d.showable = true ∧ d.hasDict = false ∧ d.depth ≤ 64 ∧ d.shown.length ≤ sizeLine ∧ Q (.str d.shown) H
theorem cr_repr {X : Cx} (hg : X.A.guards = some []) (hu : X.A.units + 66 < cLine) : CallR X (.builtin "repr") (rRepr X.K) := by
  intro pins s σ H xs us Q I rv h
  obtain ⟨a, d, rfl, hd, h1, h2, h3, h4, q⟩ := h
  cases rv with
  | cons r0 r1 =>
    cases r1
    obtain rfl := show _ = Value.ref a from r0
    obtain ⟨as, r⟩ := Dp.reads I d _ _ hd rfl
    exact repr_of_reads' r h1 (fun z => by rw [h2] at z; cases z) hg (by omega) (fun _ _ e => e) (fun h' u tk k => ⟨.str d.shown, H, I.kept k, ⟨_, rfl⟩, q⟩) h4
theorem kx_repr {X : Cx} (K : PySem.W.Frag) (hK : X.K = K) (hg : X.A.guards = some []) (hu : X.A.units + 66 < cLine) : CallR X (.builtin "repr") (rRepr K) := by subst hK; exact cr_repr hg hu
/-- in the memory m the data x, its cells looked through, are d -/
def Res (K : PySem.W.Frag) (m : Mem) (x : D) (d : PyData) : Prop := ∀ (H : Hp) (v : V), MemOk K m H → Rd K (hide m H) v x → Dp K H v d
def ResL (K : PySem.W.Frag) (m : Mem) (x : List D) (d : List PyData) : Prop := ∀ (H : Hp) (v : List V), MemOk K m H → RdL K (hide m H) v x → DpAll K H v d
section
variable {K : PySem.W.Frag} {δ : List (Option D)} {m : Mem} {Q : D → Mem → Prop}
theorem Res.fl {n : Nat} {x : D} (h : x.fl n = true) : Res K m x x.py := fun H v M r => Rd.dp n x v h r.top
theorem ResL.nil : ResL K m [] [] := fun H v M r => by cases r; exact .nil
theorem ResL.cons {x : D} {d : PyData} {xs : List D} {ds : List PyData} (h : Res K m x d) (h' : ResL K m xs ds) : ResL K m (x :: xs) (d :: ds) := fun H v M r => by
  cases r with
  | cons a b => exact .cons (h H _ M a) (h' H _ M b)
theorem Res.lst {xs : List D} {ds : List PyData} (h : ResL K m xs ds) : Res K m (.lst xs) (.list ds) := fun H v M r => by
  obtain ⟨p, vs, rfl, e, r⟩ := lst_at r
  exact .lst (SqL.of e) (h H vs M r)
theorem Res.tup {xs : List D} {ds : List PyData} (h : ResL K m xs ds) : Res K m (.tup xs) (.tuple ds) := fun H v M r => by
  obtain ⟨p, vs, rfl, e, r⟩ := tup_at r
  exact .tup e (h H vs M r)
theorem Res.adr {p : Addr} {xs : List D} {ds : List PyData} (hm : MAt m p (.lst xs)) (h : ResL K m xs ds) : Res K m (.adr p) (.list ds) := fun H v M r => by
  cases r
  obtain ⟨i, hm⟩ := hm
  obtain ⟨vs, e, r⟩ := cell_at M hm
  exact .lst (SqL.of e) (h H vs M r)
/-- what is shown -/
theorem cw_repr {x : D} {d : PyData} (h : Res K m x d) (hx : (∃ xs, x = .lst xs) ∨ (∃ xs, x = .tup xs) ∨ ∃ p, x = .adr p) (h1 : d.showable = true) (h2 : d.hasDict = false) (h3 : d.depth ≤ 64) (h4 : d.shown.length ≤ sizeLine) (q : Q (.str d.shown) m) : CW K (rRepr K) [x] m Q := fun H vs M a QQ k => by
  cases a with
  | cons a b =>
    cases b
    have g := h H _ M a
    have ha : ∃ z, ‹V› = V.ref z := by
      rcases hx with ⟨_, rfl⟩ | ⟨_, rfl⟩ | ⟨_, rfl⟩
      · obtain ⟨p, _, rfl, _⟩ := lst_at a; exact ⟨p, rfl⟩
      · obtain ⟨p, _, rfl, _⟩ := tup_at a; exact ⟨p, rfl⟩
      · cases a; exact ⟨_, rfl⟩
    obtain ⟨z, e⟩ := ha
    subst e
    exact ⟨z, d, rfl, g, h1, h2, h3, h4, k _ m _ H q (Sub.refl _) M (.str _)⟩
end
end DL

set_option Elab.async false
set_option linter.all false
set_option maxRecDepth 100000
set_option maxHeartbeats 1000000
set_option autoImplicit false
/-! Comprehensions with two loops, and such as map. -/
namespace DL
open PySem PySem.Spec PyProof.Rows L2
section
variable {K : PySem.W.Frag} {δ : List (Option D)} {m : Mem} {Q : D → Mem → Prop} {te ta tb tc : TE} {P : Ps} {t u : TS} {tt tt1 : TT} {g g1 : TG} {wi wi1 : TI}
theorem tw_yes {R : Bool → Mem → Prop} (q : R true m) : TW K tYes δ m R := fun σ H s M QQ k => k true m H q (Sub.refl _) M
theorem ew_lcM {vs : List Nat} (tm : Tame g vs) (h : IW K wi δ m fun ds m1 => ∃ Iv : Nat → List D → Mem → Prop, Iv 0 [] m1 ∧
      (∀ (j : Nat) (d : D) (acc : List D) (m' : Mem) (z : Addr), ds[j]? = some d → Iv j acc m' → acc.length < sizeLine ∧ GW K g d (wipeD δ vs) (m' ++ [(z, .lst acc)]) fun δ2 m2 => TW K tt δ2 m2 fun b m3 =>
        if b = true then EW K te δ2 m3 fun y m4 => ∃ m5, m4 = m5 ++ [(z, .lst acc)] ∧ Iv (j + 1) (acc ++ [y]) m5 else ∃ m5, m3 = m5 ++ [(z, .lst acc)] ∧ Iv (j + 1) acc m5) ∧
      (∀ (acc : List D) (m' : Mem) (z : Addr), Iv ds.length acc m' → Q (.adr z) (m' ++ [(z, .lst acc)]))) : EW K (tLc wi g tt te vs) δ m Q := fun σ H s M QQ k =>
  h σ H s M _ fun J H1 m1 ds ⟨Iv, h0, hs, hd⟩ s1 M1 fe => by
    intro z hz
    have base : Sub (hide m1 H1) (hide (m1 ++ [(z, .lst [])]) (upd H1 z (.lst []))) := by
      rw [hide_cell hz]
      exact Sub.refl _
    refine ⟨fun i n H' => n = ds.length - i ∧ i ≤ ds.length ∧ ∃ acc m', Iv i acc m' ∧ Sub (hide m1 H1) (hide (m' ++ [(z, .lst acc)]) H') ∧ MemOk K (m' ++ [(z, .lst acc)]) H', ⟨ds.length, rfl, Nat.zero_le _, [], m1, h0, base, M1.cell (c := .lst []) hz ⟨[], upd_same, .nil⟩⟩, ?_⟩
    rintro i n H' ⟨rfl, hi, acc, m', hI, s2, M2⟩
    by_cases hlt : i < ds.length
    · refine .inr ⟨fe.go i _ H' s2 M2 hlt, fun H3 => ∃ acc m3, Iv (i + 1) acc m3 ∧ Sub (hide m1 H1) (hide (m3 ++ [(z, .lst acc)]) H3) ∧ MemOk K (m3 ++ [(z, .lst acc)]) H3, fun H3 q => ⟨ds.length - (i + 1), by omega, rfl, hlt, q⟩, fun x H3 y => ?_⟩
      have hdi : ds[i]? = some ds[i] := List.getElem?_eq_getElem hlt
      obtain ⟨s3, M3, r3⟩ := fe.yld i _ H' x H3 _ s2 M2 hdi y
      obtain ⟨hl, step⟩ := hs i _ acc m' z hdi hI
      have sb : Sub (hide m H) (hide (m' ++ [(z, .lst acc)]) H3) := s1.trans (s2.trans s3)
      refine tm x σ (wipe σ vs) H3 _ (wipe_idem σ vs) ?_
      refine step (wipe σ vs) H3 x ((s.mono sb).wipe vs) M3 r3 _ fun δ4 m4 σ4 H4 q4 s4 S4 M4 => ?_
      refine q4 σ4 H4 S4 M4 _ fun b m5 H5 q5 s5 M5 => ?_
      cases b with
      | true =>
        have q5' : EW K te δ4 m5 fun y m4 => ∃ m5, m4 = m5 ++ [(z, .lst acc)] ∧ Iv (i + 1) (acc ++ [y]) m5 := q5
        refine q5' σ4 H5 (S4.mono s5) M5 _ fun yd m6 yv H6 q6 s6 M6 r6 => ?_
        obtain ⟨m7, e7, hI7⟩ := q6
        subst e7
        have hm : (m7 ++ [(z, Cell.lst acc)])[m7.length]? = some (z, Cell.lst acc) := by simp
        obtain ⟨xs, ex, rx⟩ := cell_at M6 hm
        have es : (m7 ++ [(z, Cell.lst acc)]).set m7.length (z, Cell.lst (acc ++ [yd])) = m7 ++ [(z, Cell.lst (acc ++ [yd]))] := by
          rw [List.set_append_right _ _ (Nat.le_refl _), Nat.sub_self]
          rfl
        have eh : hide (m7 ++ [(z, Cell.lst (acc ++ [yd]))]) (upd H6 z (.lst (xs ++ [yv]))) = hide (m7 ++ [(z, Cell.lst acc)]) H6 := by
          rw [← es]
          exact hide_set hm
        refine ⟨xs, ex, by rw [rx.length]; exact hl, acc ++ [yd], m7, hI7, ?_, ?_⟩
        · rw [eh]
          exact s2.trans (s3.trans (s4.trans (s5.trans s6)))
        · rw [← es]
          exact M6.set hm ⟨xs ++ [yv], upd_same, rx.snoc r6⟩
      | false =>
        have q5' : ∃ m6, m5 = m6 ++ [(z, .lst acc)] ∧ Iv (i + 1) acc m6 := q5
        obtain ⟨m7, e7, hI7⟩ := q5'
        subst e7
        exact ⟨acc, m7, hI7, s2.trans (s3.trans (s4.trans s5)), M5⟩
    · have e : i = ds.length := by omega
      subst e
      refine .inl ⟨fe.stop _ H' s2 M2, ?_⟩
      exact k (.adr z) _ (.ref z) H' (hd acc m' z hI) (s1.trans s2) M2 (.adr z)
/-- the accumulator's step -/
theorem acc_step {m7 : Mem} {z : Addr} {acc : List D} {yd : D} {H6 : Hp} {yv : V} (M6 : MemOk K (m7 ++ [(z, Cell.lst acc)]) H6) (r6 : Rd K (hide (m7 ++ [(z, Cell.lst acc)]) H6) yv yd) :
    ∃ xs, H6 z = some (.lst xs) ∧ xs.length = acc.length ∧ hide (m7 ++ [(z, Cell.lst (acc ++ [yd]))]) (upd H6 z (.lst (xs ++ [yv]))) = hide (m7 ++ [(z, Cell.lst acc)]) H6 ∧ MemOk K (m7 ++ [(z, Cell.lst (acc ++ [yd]))]) (upd H6 z (.lst (xs ++ [yv]))) := by
  have hm : (m7 ++ [(z, Cell.lst acc)])[m7.length]? = some (z, Cell.lst acc) := by simp
  obtain ⟨xs, ex, rx⟩ := cell_at M6 hm
  have es : (m7 ++ [(z, Cell.lst acc)]).set m7.length (z, Cell.lst (acc ++ [yd])) = m7 ++ [(z, Cell.lst (acc ++ [yd]))] := by
    rw [List.set_append_right _ _ (Nat.le_refl _), Nat.sub_self]
    rfl
  refine ⟨xs, ex, rx.length, ?_, ?_⟩
  · rw [← es]
    exact hide_set hm
  · rw [← es]
    exact M6.set hm ⟨xs ++ [yv], upd_same, rx.snoc r6⟩
/-- a comprehension that maps a list; nothing else changes -/
theorem ew_lcF {vs : List Nat} (tm : Tame g vs) (h : IW K wi δ m fun ds m1 => ∃ (α : Type) (xs : List α) (f F : α → D), ds = xs.map f ∧ xs.length ≤ sizeLine ∧
      (∀ (x : α) (acc : List D) (z : Addr), x ∈ xs → GW K g (f x) (wipeD δ vs) (m1 ++ [(z, .lst acc)]) fun δ2 m2 => TW K tt δ2 m2 fun b m3 => b = true ∧ EW K te δ2 m3 fun y m4 => y = F x ∧ m4 = m1 ++ [(z, .lst acc)]) ∧
      Q (.lst (xs.map F)) m1) : EW K (tLc wi g tt te vs) δ m Q := by
  refine ew_lc tm fun σ H s M QQ k => h σ H s M QQ fun J H1 m1 ds ⟨α, xs, f, F, ed, hl, st, q⟩ => k J H1 m1 ds ⟨fun j acc m' => acc = (xs.take j).map F ∧ m' = m1, ⟨by simp, rfl⟩, ?_, ?_⟩
  · rintro j d acc m' z hj ⟨rfl, rfl⟩
    subst ed
    rw [List.getElem?_map] at hj
    cases c : xs[j]? with
    | none => rw [c] at hj; cases hj
    | some x =>
      rw [c] at hj
      cases hj
      have hlt := (List.getElem?_eq_some_iff.mp c).1
      refine ⟨by rw [List.length_map, List.length_take]; omega, ?_⟩
      refine fun σ H v s M r QQ k => st x _ z (List.mem_of_getElem? c) σ H v s M r QQ fun δ' m' σ' H' q => k δ' m' σ' H' fun σ H s M QQ k => q σ H s M QQ fun b m2 H2 q => k b m2 H2 ?_
      obtain ⟨rfl, q⟩ := q
      rw [if_pos rfl]
      refine fun σ H s M QQ k => q σ H s M QQ fun y m4 v4 H4 q => k y m4 v4 H4 ?_
      obtain ⟨rfl, rfl⟩ := q
      refine ⟨_, rfl, ?_, rfl⟩
      rw [List.take_add_one, c, List.map_append]
      rfl
  · rintro acc m' ⟨rfl, rfl⟩
    subst ed
    rw [List.length_map, List.take_length]
    exact q
/-- a comprehension that picks some of a list and maps them; nothing else changes -/
theorem ew_lcP {vs : List Nat} (tm : Tame g vs) (h : IW K wi δ m fun ds m1 => ∃ (α : Type) (xs : List α) (f F : α → D) (p : α → Bool), ds = xs.map f ∧ xs.length ≤ sizeLine ∧
      (∀ (x : α) (acc : List D) (z : Addr), x ∈ xs → GW K g (f x) (wipeD δ vs) (m1 ++ [(z, .lst acc)]) fun δ2 m2 => TW K tt δ2 m2 fun b m3 => b = p x ∧ m3 = m1 ++ [(z, .lst acc)] ∧ (b = true → EW K te δ2 m3 fun y m4 => y = F x ∧ m4 = m1 ++ [(z, .lst acc)])) ∧
      Q (.lst ((xs.filter p).map F)) m1) : EW K (tLc wi g tt te vs) δ m Q := by
  refine ew_lc tm fun σ H s M QQ k => h σ H s M QQ fun J H1 m1 ds ⟨α, xs, f, F, p, ed, hl, st, q⟩ => k J H1 m1 ds ⟨fun j acc m' => acc = ((xs.take j).filter p).map F ∧ m' = m1, ⟨by simp, rfl⟩, ?_, ?_⟩
  · rintro j d acc m' z hj ⟨rfl, rfl⟩
    subst ed
    rw [List.getElem?_map] at hj
    cases c : xs[j]? with
    | none => rw [c] at hj; cases hj
    | some x =>
      rw [c] at hj
      cases hj
      have hlt := (List.getElem?_eq_some_iff.mp c).1
      have hle : ((xs.take j).filter p).length ≤ j := Nat.le_trans (List.length_filter_le _ _) (by rw [List.length_take]; omega)
      refine ⟨by rw [List.length_map]; omega, ?_⟩
      refine fun σ H v s M r QQ k => st x _ z (List.mem_of_getElem? c) σ H v s M r QQ fun δ' m' σ' H' q => k δ' m' σ' H' fun σ H s M QQ k => q σ H s M QQ fun b m2 H2 q => k b m2 H2 ?_
      obtain ⟨hb, rfl, q⟩ := q
      cases b with
      | true =>
        rw [if_pos rfl]
        refine fun σ H s M QQ k => q rfl σ H s M QQ fun y m4 v4 H4 q => k y m4 v4 H4 ?_
        obtain ⟨rfl, rfl⟩ := q
        refine ⟨_, rfl, ?_, rfl⟩
        rw [List.take_add_one, c, List.filter_append, List.map_append]
        simp [← hb]
      | false =>
        rw [if_neg Bool.false_ne_true]
        refine ⟨_, rfl, ?_, rfl⟩
        rw [List.take_add_one, c, List.filter_append, List.map_append]
        simp [← hb]
  · rintro acc m' ⟨rfl, rfl⟩
    subst ed
    rw [List.length_map, List.take_length]
    exact q
theorem intsD0 (n : Nat) : intsD 0 n = (List.range n).map fun i => D.int (i : Nat) := by simp [intsD]
theorem enumD_map {α : Type} (xs : List α) (f : α → D) : enumD (xs.map f) = xs.zipIdx.map fun p => D.tup [.int (p.2 : Nat), f p.1] := by
  unfold enumD
  rw [List.zipIdx_map, List.map_map]
  rfl
end
end DL

set_option Elab.async false
set_option linter.all false
set_option maxRecDepth 100000
set_option maxHeartbeats 1000000
set_option autoImplicit false
/-! Calls with keywords. -/
namespace DL
open PySem PySem.Spec PyProof.Rows L2
theorem fdAt_inj {K : PySem.W.Frag} {f : Addr} {fd fd' : FuncData} (h : FdAt K f fd) (h' : FdAt K f fd') : fd = fd' := by
  obtain ⟨_, _, _, h⟩ := h
  obtain ⟨_, _, _, h'⟩ := h'
  rw [h] at h'
  injection h' with h'
  injection h' with _ _ h' _
  injection h'
/-- a promise at so many arguments -/
abbrev FSn (n : Nat) (F : FS) : FS := fun ds m Q => ds.length = n ∧ F ds m Q
/-- a constant of the top -/
theorem kx_con {X : Cx} {x : Str} {v : V} {pos : Pos} (h : ∃ u, X.mg x = some u ∧ RelV v u) (hg : Gl X x) (hd : (x == ("__debug__" : Str)) = false := by decide) : PE X (.Name x pos) (tC v) := let ⟨_, h, r⟩ := h; pe_glob hg h r hd
theorem sw_ifJ {K : PySem.W.Frag} {tt : TT} {t u : TS} {δ : List (Option D)} {m : Mem} {P : Ps} (J : List (Option D) → Mem → Prop) (h : TW K tt δ m fun b m1 => if b = true then SW K t δ m1 { P with nx := J } else SW K u δ m1 { P with nx := J }) (n : ∀ δ' m', J δ' m' → P.nx δ' m') : SW K (tIfS tt t u) δ m P :=
  sw_mid (sw_if h) n (fun _ _ q => q) (fun _ _ q => q) (fun _ _ q => q)
section
variable {K : PySem.W.Frag} {δ : List (Option D)} {m : Mem} {P : Ps} {ta : TA} {te : TE} {g : TG} {t : TS} {wi : TI}
theorem sw_forN (h : AW K ta δ m fun xs m1 => ∃ k : Nat, xs = [.int (k : Nat)] ∧ k < 2 ^ 62 ∧ ∃ Iv : Nat → List (Option D) → Mem → Prop, Iv 0 δ m1 ∧
      (∀ (j : Nat) (δ' : List (Option D)) (m' : Mem), j < k → Iv j δ' m' → GW K g (.int (j : Nat)) δ' m' fun δ2 m2 => SW K t δ2 m2 { nx := Iv (j + 1), ct := Iv (j + 1), bk := P.nx, rt := P.rt }) ∧
      ∀ (δ' : List (Option D)) (m' : Mem), Iv k δ' m' → P.nx δ' m') : SW K (tFor (iRng1 ta) g t) δ m P :=
  sw_for (iw_rng1 fun σ H s M QQ kk => h σ H s M QQ fun xs m1 vs H1 ⟨k, e, hk, Iv, h0, hs, hd⟩ => kk xs m1 vs H1 ⟨(k : Int), e, by omega, by omega, Iv, h0, fun j d δ' m' hj hI => by
    obtain ⟨l, rfl⟩ := intsD_get hj
    have := hs j δ' m' (by omega) hI
    rwa [Int.zero_add], fun δ' m' hI => hd δ' m' (by rw [intsD_len] at hI; exact hI)⟩)
theorem sw_forX (h : IW K wi δ m fun ds m1 => ∃ (α : Type) (xs : List α) (f : α → D), ds = xs.map f ∧ ∃ Iv : Nat → List (Option D) → Mem → Prop, Iv 0 δ m1 ∧
      (∀ (j : Nat) (x : α) (δ' : List (Option D)) (m' : Mem), xs[j]? = some x → Iv j δ' m' → GW K g (f x) δ' m' fun δ2 m2 => SW K t δ2 m2 { nx := Iv (j + 1), ct := Iv (j + 1), bk := P.nx, rt := P.rt }) ∧
      ∀ (δ' : List (Option D)) (m' : Mem), Iv xs.length δ' m' → P.nx δ' m') : SW K (tFor wi g t) δ m P :=
  sw_for fun σ H s M QQ kk => h σ H s M QQ fun J H1 m1 ds ⟨α, xs, f, ed, Iv, h0, hs, hd⟩ => kk J H1 m1 ds ⟨Iv, h0, fun j d δ' m' hj hI => by
    subst ed
    rw [List.getElem?_map] at hj
    cases c : xs[j]? with
    | none => rw [c] at hj; cases hj
    | some x =>
      rw [c] at hj
      cases hj
      exact hs j x δ' m' c hI, fun δ' m' hI => hd δ' m' (by rw [ed, List.length_map] at hI; exact hI)⟩
end
section
variable {K : PySem.W.Frag} {δ : List (Option D)} {m : Mem} {Q : D → Mem → Prop} {ta : TA} {te : TE} {tt : TT} {g : TG} {wi : TI}
theorem iw_rngN {R : List D → Mem → Prop} (h : AW K ta δ m fun xs m1 => ∃ k : Nat, xs = [.int (k : Nat)] ∧ k < 2 ^ 62 ∧ R ((List.range k).map fun i => D.int (i : Nat)) m1) : IW K (iRng1 ta) δ m R :=
  iw_rng1 fun σ H s M QQ kk => h σ H s M QQ fun xs m1 vs H1 ⟨k, e, hk, q⟩ => kk xs m1 vs H1 ⟨(k : Int), e, by omega, by omega, by rw [Int.toNat_natCast, intsD0]; exact q⟩
/-- a comprehension whose items are drawn: R what each of them keeps, Mv the cells behind so many -/
theorem ew_lcD {α β : Type} {vs : List Nat} (f : β → D) (R : Nat → β → Prop) (Mv : Nat → Mem → Prop) (tm : Tame g vs) (h : IW K wi δ m fun ds m1 => ∃ (xs : List α) (e : α → D), ds = xs.map e ∧ xs.length ≤ sizeLine ∧ Mv 0 m1 ∧
      (∀ (j : Nat) (x : α) (acc : List D) (m' : Mem) (z : Addr), xs[j]? = some x → Mv j m' → GW K g (e x) (wipeD δ vs) (m' ++ [(z, .lst acc)]) fun δ2 m2 => TW K tt δ2 m2 fun b m3 => b = true ∧ EW K te δ2 m3 fun y m4 => ∃ t m5, y = f t ∧ R j t ∧ m4 = m5 ++ [(z, .lst acc)] ∧ Mv (j + 1) m5) ∧
      ∀ (ts : List β) (m' : Mem), ts.length = xs.length → (∀ (j : Nat) (t : β), ts[j]? = some t → R j t) → Mv xs.length m' → Q (.lst (ts.map f)) m') : EW K (tLc wi g tt te vs) δ m Q := by
  refine ew_lc tm fun σ H s M QQ k => h σ H s M QQ fun J H1 m1 ds ⟨xs, e, ed, hl, h0, st, q⟩ => k J H1 m1 ds ⟨fun j acc m' => ∃ ts : List β, acc = ts.map f ∧ ts.length = j ∧ (∀ (i : Nat) (t : β), ts[i]? = some t → R i t) ∧ Mv j m', ⟨[], rfl, rfl, fun i t h => by simp at h, h0⟩, ?_, ?_⟩
  · rintro j d acc m' z hj ⟨ts, rfl, hlen, hR, hM⟩
    subst ed
    rw [List.getElem?_map] at hj
    cases c : xs[j]? with
    | none => rw [c] at hj; cases hj
    | some x =>
      rw [c] at hj
      cases hj
      have hlt := (List.getElem?_eq_some_iff.mp c).1
      refine ⟨by rw [List.length_map]; omega, ?_⟩
      refine fun σ H v s M r QQ k => st j x _ m' z c hM σ H v s M r QQ fun δ' m' σ' H' q => k δ' m' σ' H' fun σ H s M QQ k => q σ H s M QQ fun b m2 H2 q => k b m2 H2 ?_
      obtain ⟨rfl, q⟩ := q
      rw [if_pos rfl]
      refine fun σ H s M QQ k => q σ H s M QQ fun y m4 v4 H4 q => k y m4 v4 H4 ?_
      obtain ⟨t, m5, rfl, hr, rfl, hM'⟩ := q
      refine ⟨m5, rfl, ts ++ [t], by rw [List.map_append]; rfl, by rw [List.length_append, hlen]; rfl, fun i t' ht => ?_, hM'⟩
      by_cases hi : i < ts.length
      · rw [List.getElem?_append_left hi] at ht
        exact hR i t' ht
      · rw [List.getElem?_append_right (by omega)] at ht
        have e0 : i - ts.length = 0 := by
          have := (List.getElem?_eq_some_iff.mp ht).1
          simp at this
          omega
        rw [e0] at ht
        simp at ht
        subst ht
        rw [show i = j by omega]
        exact hr
  · rintro acc m' ⟨ts, rfl, hlen, hR, hM⟩
    rw [ed, List.length_map] at hlen hM
    exact q ts m' hlen hR hM
end
theorem range_get {k j x : Nat} (h : (List.range k)[j]? = some x) : j < k ∧ j = x := by
  have hj := (List.getElem?_eq_some_iff.mp h).1
  rw [List.length_range] at hj
  rw [List.getElem?_range hj] at h
  cases h
  exact ⟨hj, rfl⟩
/-- keywords alone, in the parameters' order -/
def KB0 (K : PySem.W.Frag) (f : Addr) (ps : List Str) : Prop := ∀ fd, FdAt K f fd → ∀ ws : List Value, ws.length = ps.length → bindArgs fd ⟨[], ps.zip ws⟩ = pure (ps.zip ws)
theorem KB0.kbn {K : PySem.W.Frag} {f : Addr} {ps : List Str} {fd : FuncData} (h : KB0 K f ps) (e : FdAt K f fd) : KBn K fd ps 0 ps (fun _ ws => ws) (fun _ zs => zs) :=
  ⟨fun s us ws _ l1 l2 => by
    have : us = [] := List.length_eq_zero_iff.mp l1
    subst this
    exact BindsTo.of_eq (h fd e ws l2), fun _ r => r⟩
def tKw0 (n : Nat) (sp : Sp) (E : XK) (tk : TA) : TE := fun σ H Q => tk σ H fun zs H2 => zs.length = n ∧ sp zs H2 Q E
section
variable {X : Cx} {k : Nat} {f : Addr} {ps : List Str} {Pf : FS} {x : Str} {p pos : Pos} {kws : List Keyword} {tk : TA}
end
section
variable {K : PySem.W.Frag} {δ : List (Option D)} {m : Mem} {Q : D → Mem → Prop}
theorem ew_kw0 {Pf : FS} {E : XK} {t : TA} {n : Nat} (h : AW K t δ m fun ds m1 => ds.length = n ∧ Pf ds m1 Q) : EW K (tKw0 n (spOf K Pf) E t) δ m Q := fun σ H s M QQ k =>
  h σ H s M _ fun ds m1 vs H1 ⟨l, q⟩ s1 M1 r1 => ⟨by rw [r1.length, l], ds, m1, Q, r1, M1, q, fun d m2 v H2 q2 s2 M2 r2 => k d m2 v H2 q2 (s1.trans s2) M2 r2⟩
end
end DL

set_option Elab.async false
set_option linter.all false
set_option maxRecDepth 100000
set_option maxHeartbeats 1000000
set_option autoImplicit false
/-! Tables: the states that come about, in the sequence in which they are reached. -/
namespace DL
abbrev Step := Nat × Option Int
abbrev Tab := List (List Step)
def ext (o : List Nat) (gs : List Nat) : List Nat := gs.foldl (fun o g => if g ∈ o then o else o ++ [g]) o
theorem ext_nil (o : List Nat) : ext o [] = o := rfl
theorem ext_cons (o gs : List Nat) (g : Nat) : ext o (g :: gs) = ext (if g ∈ o then o else o ++ [g]) gs := rfl
theorem ext_snoc (o gs : List Nat) (g : Nat) : ext o (gs ++ [g]) = if g ∈ ext o gs then ext o gs else ext o gs ++ [g] := by
  unfold ext
  rw [List.foldl_append]
  rfl
theorem ext_pre : ∀ (gs o : List Nat), o <+: ext o gs
  | [], o => List.prefix_refl o
  | g :: gs, o => by
    rw [ext_cons]
    refine List.IsPrefix.trans ?_ (ext_pre gs _)
    by_cases h : g ∈ o
    · rw [if_pos h]; exact List.prefix_refl o
    · rw [if_neg h]; exact List.prefix_append o [g]
theorem ext_mem {x : Nat} : ∀ (gs o : List Nat), x ∈ ext o gs ↔ x ∈ o ∨ x ∈ gs
  | [], o => by simp [ext_nil]
  | g :: gs, o => by
    rw [ext_cons, ext_mem gs]
    by_cases h : g ∈ o
    · rw [if_pos h]
      simp only [List.mem_cons]
      constructor
      · rintro (a | a)
        · exact .inl a
        · exact .inr (.inr a)
      · rintro (a | rfl | a)
        · exact .inl a
        · exact .inl h
        · exact .inr a
    · rw [if_neg h]
      rw [List.mem_append, List.mem_singleton, List.mem_cons]
      constructor
      · rintro ((a | a) | a)
        · exact .inl a
        · exact .inr (.inl a)
        · exact .inr (.inr a)
      · rintro (a | a | a)
        · exact .inl (.inl a)
        · exact .inl (.inr a)
        · exact .inr a
theorem ext_nd : ∀ (gs o : List Nat), o.Nodup → (ext o gs).Nodup
  | [], o, h => h
  | g :: gs, o, h => by
    rw [ext_cons]
    refine ext_nd gs _ ?_
    by_cases c : g ∈ o
    · rw [if_pos c]; exact h
    · rw [if_neg c]
      refine List.nodup_append.mpr ⟨h, by simp, fun a ha b hb => ?_⟩
      rw [List.mem_singleton] at hb
      subst hb
      exact fun e => c (e ▸ ha)
theorem ext_map {f : Nat → Nat} : ∀ (gs o : List Nat), (∀ x ∈ o ++ gs, ∀ y ∈ o ++ gs, f x = f y → x = y) → ext (o.map f) (gs.map f) = (ext o gs).map f
  | [], o, _ => rfl
  | g :: gs, o, h => by
    rw [List.map_cons, ext_cons, ext_cons]
    by_cases c : g ∈ o
    · rw [if_pos c, if_pos (List.mem_map_of_mem c)]
      exact ext_map gs o fun x hx y hy => h x (by simp at hx ⊢; rcases hx with a | a <;> simp [a]) y (by simp at hy ⊢; rcases hy with a | a <;> simp [a])
    · have c' : f g ∉ o.map f := fun hm => by
        obtain ⟨x, hx, e⟩ := List.mem_map.mp hm
        have := h x (by simp [hx]) g (by simp) e
        exact c (this ▸ hx)
      rw [if_neg c, if_neg c', show o.map f ++ [f g] = (o ++ [g]).map f by simp]
      exact ext_map gs _ fun x hx y hy => h x (by simpa [or_assoc] using hx) y (by simpa [or_assoc] using hy)
def goals (T : Tab) (s : Nat) : List Nat := (T.getD s []).map (·.1)
def ordT (T : Tab) : Nat → List Nat
  | 0 => [0]
  | t + 1 => if t < (ordT T t).length then ext (ordT T t) (goals T ((ordT T t).getD t 0)) else ordT T t
theorem ordT_pre1 (T : Tab) (t : Nat) : ordT T t <+: ordT T (t + 1) := by
  rw [ordT]
  split
  · exact ext_pre _ _
  · exact List.prefix_refl _
theorem ordT_pre (T : Tab) {t u : Nat} (h : t ≤ u) : ordT T t <+: ordT T u := by
  induction u with
  | zero => rw [Nat.le_zero.mp h]; exact List.prefix_refl _
  | succ u ih =>
    by_cases e : t = u + 1
    · rw [e]; exact List.prefix_refl _
    · exact (ih (by omega)).trans (ordT_pre1 T u)
theorem ordT_nd (T : Tab) : ∀ t, (ordT T t).Nodup
  | 0 => by simp [ordT]
  | t + 1 => by
    rw [ordT]
    split
    · exact ext_nd _ _ (ordT_nd T t)
    · exact ordT_nd T t
theorem ordT_stop (T : Tab) {t : Nat} (h : (ordT T t).length ≤ t) : ∀ {u : Nat}, t ≤ u → ordT T u = ordT T t := by
  intro u hu
  induction u with
  | zero => rw [Nat.le_zero.mp hu]
  | succ u ih =>
    by_cases e : t = u + 1
    · rw [e]
    · have := ih (by omega)
      rw [ordT, this, if_neg (by omega)]
/-- a table: at least one state, steps lead to states -/
structure TabOk (T : Tab) : Prop where
  pos : 0 < T.length
  lt : ∀ r ∈ T, ∀ s ∈ r, s.1 < T.length
theorem TabOk.goals {T : Tab} (h : TabOk T) {s g : Nat} (hg : g ∈ goals T s) : g < T.length := by
  unfold DL.goals at hg
  obtain ⟨x, hx, rfl⟩ := List.mem_map.mp hg
  by_cases c : s < T.length
  · rw [List.getD_eq_getElem?_getD, List.getElem?_eq_getElem c] at hx
    exact h.lt _ (List.getElem_mem c) x hx
  · rw [List.getD_eq_getElem?_getD, List.getElem?_eq_none (by omega)] at hx
    cases hx
theorem ordT_lt {T : Tab} (h : TabOk T) : ∀ (t : Nat) (x : Nat), x ∈ ordT T t → x < T.length
  | 0, x, hx => by
    simp [ordT] at hx
    subst hx
    exact h.pos
  | t + 1, x, hx => by
    rw [ordT] at hx
    split at hx
    · rcases (ext_mem _ _).mp hx with a | a
      · exact ordT_lt h t x a
      · exact h.goals a
    · exact ordT_lt h t x hx
theorem nd_le : ∀ (n : Nat) (l : List Nat), l.Nodup → (∀ x ∈ l, x < n) → l.length ≤ n := by
  intro n
  induction n with
  | zero =>
    intro l _ h
    cases l with
    | nil => exact Nat.le_refl _
    | cons a l => exact absurd (h a (by simp)) (by omega)
  | succ n ih =>
    intro l nd h
    by_cases c : n ∈ l
    · have e := List.length_erase_of_mem c
      have := ih (l.erase n) (nd.erase n) fun x hx => by
        have h1 := (nd.mem_erase_iff).mp hx
        have h2 := h x h1.2
        omega
      omega
    · have := ih l nd fun x hx => by
        have h2 := h x hx
        have h3 : x ≠ n := fun e => c (e ▸ hx)
        omega
      omega
theorem ordT_len {T : Tab} (h : TabOk T) (t : Nat) : (ordT T t).length ≤ T.length := nd_le _ _ (ordT_nd T t) (ordT_lt h t)
theorem ordT_pos (T : Tab) (t : Nat) : 0 < (ordT T t).length := Nat.lt_of_lt_of_le (by decide : 0 < [0].length) (ordT_pre T (Nat.zero_le t)).length_le
def fin (T : Tab) : List Nat := ordT T T.length
theorem fin_nd (T : Tab) : (fin T).Nodup := ordT_nd T _
theorem fin_len {T : Tab} (h : TabOk T) : (fin T).length ≤ T.length := ordT_len h _
theorem fin_lt {T : Tab} (h : TabOk T) {x : Nat} (hx : x ∈ fin T) : x < T.length := ordT_lt h _ x hx
theorem fin_pre {T : Tab} {t : Nat} (ht : t ≤ T.length) : ordT T t <+: fin T := ordT_pre T ht
theorem fin_at {T : Tab} (h : TabOk T) : ordT T (fin T).length = fin T :=
  (ordT_stop T (fin_pre (fin_len h)).length_le (fin_len h)).symm
/-- a search that has come to its end has found all -/
theorem fin_of {T : Tab} (h : TabOk T) {t : Nat} (ht : (ordT T t).length ≤ t) : ordT T t = fin T := by
  have l := ordT_len h t
  by_cases c : t ≤ T.length
  · exact (ordT_stop T ht c).symm
  · have h2 : (ordT T T.length).length ≤ T.length := ordT_len h _
    exact ordT_stop T h2 (by omega)
theorem fin_closed {T : Tab} (h : TabOk T) {s g : Nat} (hs : s ∈ fin T) (hg : g ∈ goals T s) : g ∈ fin T := by
  obtain ⟨i, hi, e⟩ := List.getElem_of_mem hs
  have hp : ordT T i <+: fin T := fin_pre (by have := fin_len h; omega)
  have hp1 : ordT T (i + 1) <+: fin T := fin_pre (by have := fin_len h; omega)
  by_cases c : i < (ordT T i).length
  · have ei : (ordT T i)[i] = s := by
      rw [← e]
      exact hp.getElem c
    refine hp1.subset ?_
    rw [ordT, if_pos c, List.getD_eq_getElem?_getD, List.getElem?_eq_getElem c]
    exact (ext_mem _ _).mpr (.inr (by simpa [ei] using hg))
  · have := fin_of h (t := i) (by omega)
    rw [this] at c
    omega
def normT (T : Tab) : Tab := (fin T).map fun s => (T.getD s []).map fun p => ((fin T).idxOf p.1, p.2)
theorem normT_len (T : Tab) : (normT T).length = (fin T).length := by simp [normT]
theorem normT_get {T : Tab} {i : Nat} (hi : i < (fin T).length) : (normT T).getD i [] = (T.getD (fin T)[i] []).map fun p => ((fin T).idxOf p.1, p.2) := by
  unfold normT
  rw [List.getD_eq_getElem?_getD, List.getElem?_map, List.getElem?_eq_getElem hi]
  rfl
theorem normT_ok {T : Tab} (h : TabOk T) : TabOk (normT T) := by
  refine ⟨by rw [normT_len]; exact ordT_pos T _, fun r hr s hs => ?_⟩
  rw [normT_len]
  unfold normT at hr
  obtain ⟨x, hx, rfl⟩ := List.mem_map.mp hr
  obtain ⟨p, hp, rfl⟩ := List.mem_map.mp hs
  exact List.idxOf_lt_length_of_mem (fin_closed h hx (by unfold DL.goals; exact List.mem_map_of_mem hp))
theorem map_idx {o O : List Nat} (hp : o <+: O) (nd : O.Nodup) : o.map (fun x => O.idxOf x) = List.range o.length := by
  refine List.ext_getElem (by simp) fun i h1 h2 => ?_
  rw [List.getElem_map, List.getElem_range]
  have hi : i < o.length := by simpa using h1
  have hl := hp.length_le
  have e : o[i] = O[i]'(by omega) := hp.getElem hi
  rw [e]
  exact nd.idxOf_getElem i (by omega)
theorem ordT_norm {T : Tab} (h : TabOk T) : ∀ t, ordT (normT T) t = (ordT T t).map fun x => (fin T).idxOf x
  | 0 => by
    have hp : ordT T 0 <+: fin T := fin_pre (Nat.zero_le _)
    rw [map_idx hp (fin_nd T)]
    rfl
  | t + 1 => by
    have ih := ordT_norm h t
    rw [ordT, ordT, ih, List.length_map]
    by_cases c : t < (ordT T t).length
    · rw [if_pos c, if_pos c]
      have hln := ordT_len h t
      have hp : ordT T t <+: fin T := fin_pre (by omega)
      have hp1 : ordT T (t + 1) <+: fin T := fin_pre (by omega)
      have hf : t < (fin T).length := Nat.lt_of_lt_of_le c hp.length_le
      have ei : (ordT T t)[t] = (fin T)[t] := hp.getElem c
      have e1 : ((ordT T t).map fun x => (fin T).idxOf x).getD t 0 = t := by
        rw [map_idx hp (fin_nd T), List.getD_eq_getElem?_getD, List.getElem?_range c]
        rfl
      have e2 : (ordT T t).getD t 0 = (fin T)[t] := by
        rw [List.getD_eq_getElem?_getD, List.getElem?_eq_getElem c, ei]
        rfl
      have e3 : goals (normT T) t = (goals T (fin T)[t]).map fun x => (fin T).idxOf x := by
        unfold goals
        rw [normT_get hf, List.map_map, List.map_map]
        rfl
      rw [e1, e2, e3]
      have hin : ∀ x ∈ ordT T t ++ goals T (fin T)[t], x ∈ fin T := fun x hx => by
        rcases List.mem_append.mp hx with a | a
        · exact hp.subset a
        · exact fin_closed h (List.getElem_mem hf) a
      refine ext_map (f := fun x => (fin T).idxOf x) _ _ fun x hx y hy e => ?_
      obtain ⟨i, hi, rfl⟩ := List.getElem_of_mem (hin x hx)
      obtain ⟨j, hj, rfl⟩ := List.getElem_of_mem (hin y hy)
      have a1 := (fin_nd T).idxOf_getElem i hi
      have a2 := (fin_nd T).idxOf_getElem j hj
      have : i = j := by rw [← a1, ← a2]; exact e
      subst this
      rfl
    · rw [if_neg c, if_neg c]
/-- a table whose states are numbered as they are reached -/
def Normal (T : Tab) : Prop := fin T = List.range T.length
theorem normT_normal {T : Tab} (h : TabOk T) : Normal (normT T) := by
  unfold Normal
  conv => lhs; unfold fin
  rw [normT_len, ordT_norm h, fin_at h, map_idx (List.prefix_refl _) (fin_nd T)]
theorem range_idx {n x : Nat} (h : x < n) : (List.range n).idxOf x = x := by
  have := (List.nodup_range (n := n)).idxOf_getElem x (by simpa using h)
  simpa using this
/-- such a table, with states behind that do not come about, reads as itself -/
theorem ordT_more {T : Tab} (h : TabOk T) (X : Tab) : ∀ t, ordT (T ++ X) t = ordT T t
  | 0 => rfl
  | t + 1 => by
    rw [ordT, ordT, ordT_more h X t]
    by_cases c : t < (ordT T t).length
    · rw [if_pos c, if_pos c]
      have hx : (ordT T t).getD t 0 < T.length := by
        rw [List.getD_eq_getElem?_getD, List.getElem?_eq_getElem c]
        exact ordT_lt h t _ (List.getElem_mem c)
      have : goals (T ++ X) ((ordT T t).getD t 0) = goals T ((ordT T t).getD t 0) := by
        unfold goals
        rw [List.getD_eq_getElem?_getD, List.getD_eq_getElem?_getD (l := T), List.getElem?_append_left hx]
      rw [this]
    · rw [if_neg c, if_neg c]
theorem fin_more {T : Tab} (h : TabOk T) (X : Tab) : fin (T ++ X) = fin T := by
  unfold fin
  rw [ordT_more h X]
  exact ordT_stop T (ordT_len h _) (by simp)
theorem normT_more {T : Tab} (h : TabOk T) (n : Normal T) (X : Tab) : normT (T ++ X) = T := by
  unfold normT
  rw [fin_more h X, n]
  refine List.ext_getElem (by simp) fun i h1 h2 => ?_
  have hi : i < T.length := by simpa using h2
  rw [List.getElem_map, List.getElem_range, List.getD_eq_getElem?_getD, List.getElem?_append_left hi, List.getElem?_eq_getElem hi]
  show (T[i].map fun p => ((List.range T.length).idxOf p.1, p.2)) = T[i]
  have : T[i].map (fun p => ((List.range T.length).idxOf p.1, p.2)) = T[i].map id := List.map_congr_left fun p hp => by
    rw [range_idx (h.lt _ (List.getElem_mem hi) p hp)]
    rfl
  rw [this, List.map_id]
theorem normT_same {T : Tab} (h : TabOk T) (n : Normal T) : normT T = T := by
  have := normT_more h n []
  rwa [List.append_nil] at this
end DL

set_option Elab.async false
set_option linter.all false
set_option maxRecDepth 100000
set_option maxHeartbeats 1000000
set_option autoImplicit false
/-! Cells dropped; numbers and texts looked for in lists, dicts, sets. -/
namespace DL
open PySem PySem.Spec PyProof.Rows L2
def rel (sc1 sc0 : Scope) : Scope := PySem.relabel sc1 { scope := sc0, locals := 0, globals := 0, cells := [], qual := "", func := none, code := .none, frame := none, builtins := 0 }
theorem blkIn {N : List Str} {X : Cx} {s : Shared} {H : Hp} {sc0 sc1 scope : Scope} {cl : List (Str × Addr)} {C : Addr} {en : Env} {fp : List Addr} {own : List (Str × Nat)} (h : blkC N (rel sc1 sc0) scope own = true) (he : en.scope = sc0 := by rfl) : BlkOk N (X.blk s H sc1 (compEnvC sc1 cl C en) fp).env.scope scope own := by
  subst he
  exact blkOk_by (sc := rel sc1 en.scope) h
theorem h1u {k : Nat} {A : Around} (hr : Room k A) : A.units + 1 < cLine := by have := hr.un; omega
theorem h65 {k : Nat} {A : Around} (hr : Room k A) : A.units + 65 < cLine := by have := hr.un; omega
theorem h66 {k : Nat} {A : Around} (hr : Room k A) : A.units + 66 < cLine := by have := hr.un; omega
abbrev natD (x : Nat) : D := .int (x : Nat)
section
variable {K : PySem.W.Frag} {δ : List (Option D)} {m : Mem} {Q : D → Mem → Prop} {te ta tb tc : TE} {p : Addr} {ds : List D}
theorem sw_forget {t : TS} {P : Ps} (h : SW K t δ m { P with rt := fun d m1 => ∃ p c m2, m1 = m2 ++ [(p, c)] ∧ P.rt d m2, nx := fun δ' m1 => ∃ p c m2, m1 = m2 ++ [(p, c)] ∧ P.nx δ' m2 }) : SW K t δ m P := fun σ H s M E k =>
  h σ H s M E ⟨fun δ' m' σ' H' ⟨p, c, m2, e, q⟩ s1 S1 M1 => by
    subst e
    obtain ⟨M2, sb, _⟩ := M1.drop
    exact k.nx δ' m2 σ' H' q (s1.trans sb) (S1.mono sb) M2, fun d m1 v H1 ⟨p, c, m2, e, q⟩ s1 M1 r1 => by
    subst e
    obtain ⟨M2, sb, _⟩ := M1.drop
    exact k.rt d m2 v H1 q (s1.trans sb) M2 (r1.mono sb), fun δ' m' σ' H' q => k.bk δ' m' σ' H' q, fun δ' m' σ' H' q => k.ct δ' m' σ' H' q⟩
theorem hide_perm {m m' : Mem} {H : Hp} (h : m.Perm m') : hide m H = hide m' H := by
  funext a
  unfold hide
  have : a ∈ m.map Prod.fst ↔ a ∈ m'.map Prod.fst := (h.map Prod.fst).mem_iff
  by_cases c : a ∈ m.map Prod.fst
  · rw [if_pos c, if_pos (this.mp c)]
  · rw [if_neg c, if_neg fun z => c (this.mpr z)]
theorem MemOk.perm {m m' : Mem} {H : Hp} (h : m.Perm m') (M : MemOk K m H) : MemOk K m' H :=
  ⟨(h.map Prod.fst).nodup_iff.mp M.nd, fun p c hc => by
    have := M.at_ p c (h.mem_iff.mpr hc)
    rwa [hide_perm h] at this⟩
/-- the cells told in another sequence -/
theorem ew_perm (h : EW K te δ m fun d m1 => ∃ m2, m1.Perm m2 ∧ Q d m2) : EW K te δ m Q := fun σ H s M QQ k =>
  h σ H s M _ fun d m1 v H1 ⟨m2, e, q⟩ s1 M1 r1 => k d m2 v H1 q (by rw [← hide_perm e]; exact s1) (M1.perm e) (by rw [← hide_perm e]; exact r1)
theorem perm_end {l : Mem} {x y : Addr × Cell} : (l ++ [x] ++ [y]).Perm (l ++ [y] ++ [x]) := by
  rw [List.append_assoc, List.append_assoc]
  exact List.Perm.append_left l (List.Perm.swap y x [])
theorem sw_dputA {td ty tv : TE} {P : Ps} (h : EW K tv δ m fun z m1 => EW K td δ m1 fun x m2 => EW K ty δ m2 fun y m3 => ∃ (p : Addr) (kvs : List (Key × D)) (k : Key) (m4 : Mem), x = .adr p ∧ y = kD k ∧ MUp m3 p (.dic kvs) (.dic (putD kvs k z)) m4 ∧ kvs.length < sizeLine ∧ P.nx δ m4) : SW K (sDPut td ty tv) δ m P :=
  sw_dput fun σ H s M QQ k => h σ H s M QQ fun z m1 v H1 q => k z m1 v H1 fun σ H s M QQ k => q σ H s M QQ fun x m2 v2 H2 q => k x m2 v2 H2 fun σ H s M QQ k => q σ H s M QQ fun y m3 v3 H3 ⟨p, kvs, kk, m4, e1, e2, ⟨i, hm, em⟩, hl, q⟩ => k y m3 v3 H3 ⟨p, i, kvs, kk, e1, e2, hm, hl, em ▸ q⟩
abbrev seenD (o : List Nat) : List (Key × D) := o.map fun g => (Sum.inl ((g : Nat) : Int), D.bl true)
theorem seen_val (o : List Nat) (g : Nat) : (valD (seenD o) (.inl (g : Nat))).isSome = decide (g ∈ o) := by
  unfold valD seenD
  rw [Option.isSome_map]
  induction o with
  | nil => rfl
  | cons a o ih =>
    rw [List.map_cons, List.find?_cons]
    by_cases e : a = g
    · subst e
      simp
    · have : decide ((Sum.inl ((a : Nat) : Int) : Key) = Sum.inl ((g : Nat) : Int)) = false := decide_eq_false fun z => e (by injection z with z; omega)
      simp only [this]
      rw [ih]
      have e' : ¬ g = a := fun z => e z.symm
      simp [e']
theorem putD_new {kvs : List (Key × D)} {k : Key} {d : D} (h : ∀ p ∈ kvs, p.1 ≠ k) : putD kvs k d = kvs ++ [(k, d)] := by
  unfold putD
  have : (kvs.any fun kv => decide (kv.1 = k)) = false := by
    rw [List.any_eq_false]
    intro x hx
    simpa using h x hx
  rw [this, if_neg Bool.false_ne_true]
theorem seen_put {o : List Nat} {g : Nat} (h : g ∉ o) : putD (seenD o) (.inl (g : Nat)) (.bl true) = seenD (o ++ [g]) := by
  rw [putD_new, seenD, seenD, List.map_append]
  · rfl
  · intro p hp e
    obtain ⟨x, hx, rfl⟩ := List.mem_map.mp hp
    injection e with e
    have : x = g := by omega
    exact h (this ▸ hx)
theorem nd_map {α β : Type} {f : α → β} {l : List α} (inj : ∀ a b, f a = f b → a = b) (h : l.Nodup) : (l.map f).Nodup := List.pairwise_map.mpr (h.imp fun ne e => ne (inj _ _ e))
theorem ew_dcF {α : Type} {tk tv : TE} {vs : List Nat} {g : TG} {tt : TT} {wi : TI} (tm : Tame g vs) (h : IW K wi δ m fun ds m1 => ∃ (xs : List α) (f : α → D) (kf : α → Key) (vf : α → D), ds = xs.map f ∧ xs.length ≤ sizeLine ∧ (xs.map kf).Nodup ∧
      (∀ (x : α) (acc : List (Key × D)) (z : Addr), x ∈ xs → GW K g (f x) (wipeD δ vs) (m1 ++ [(z, .dic acc)]) fun δ2 m2 => TW K tt δ2 m2 fun b m3 => b = true ∧ EW K tk δ2 m3 fun y m4 => EW K tv δ2 m4 fun v m5 => y = kD (kf x) ∧ v = vf x ∧ m5 = m1 ++ [(z, .dic acc)]) ∧
      Q (.dic (xs.map fun x => (kf x, vf x))) m1) : EW K (tDc wi g tt tk tv vs) δ m Q := by
  refine ew_dc tm fun σ H s M QQ k => h σ H s M QQ fun J H1 m1 ds ⟨xs, f, kf, vf, ed, hl, nd, st, q⟩ => k J H1 m1 ds ⟨fun j acc m' => acc = (xs.take j).map (fun x => (kf x, vf x)) ∧ m' = m1, ⟨by simp, rfl⟩, ?_, ?_⟩
  · rintro j d acc m' z hj ⟨rfl, rfl⟩
    subst ed
    rw [List.getElem?_map] at hj
    cases c : xs[j]? with
    | none => rw [c] at hj; cases hj
    | some x =>
      rw [c] at hj
      cases hj
      have hlt := (List.getElem?_eq_some_iff.mp c).1
      refine ⟨by rw [List.length_map, List.length_take]; omega, ?_⟩
      refine fun σ H v s M r QQ k => st x _ z (List.mem_of_getElem? c) σ H v s M r QQ fun δ' m' σ' H' q => k δ' m' σ' H' fun σ H s M QQ k => q σ H s M QQ fun b m2 H2 q => k b m2 H2 ?_
      obtain ⟨rfl, q⟩ := q
      rw [if_pos rfl]
      refine fun σ H s M QQ k => q σ H s M QQ fun y m4 v4 H4 q => k y m4 v4 H4 fun σ H s M QQ k => q σ H s M QQ fun y m4 v4 H4 q => k y m4 v4 H4 ?_
      obtain ⟨rfl, rfl, rfl⟩ := q
      refine ⟨_, _, rfl, rfl, ?_, rfl⟩
      have et : xs.take (j + 1) = xs.take j ++ [x] := by rw [List.take_add_one, c]; rfl
      rw [et, List.map_append]
      refine putD_new fun p hp e => ?_
      obtain ⟨y, hy, rfl⟩ := List.mem_map.mp hp
      have n2 : ((xs.take (j + 1)).map kf).Nodup := nd.sublist ((List.take_sublist _ _).map kf)
      rw [et, List.map_append] at n2
      exact (List.nodup_append.mp n2).2.2 (kf y) (List.mem_map_of_mem hy) (kf x) (by simp) e
  · rintro acc m' ⟨rfl, rfl⟩
    subst ed
    rw [List.length_map, List.take_length]
    exact q
theorem find_key {α : Type} {kf : α → Key} {vf : α → D} {x : α} : ∀ {xs : List α}, (xs.map kf).Nodup → x ∈ xs → valD (xs.map fun x => (kf x, vf x)) (kf x) = some (vf x)
  | a :: xs, nd, h => by
    rw [List.map_cons] at nd
    obtain ⟨n1, n2⟩ := List.nodup_cons.mp nd
    unfold valD
    rw [List.map_cons, List.find?_cons]
    by_cases e : kf a = kf x
    · rcases List.mem_cons.mp h with rfl | h
      · simp
      · exact absurd (e ▸ List.mem_map_of_mem h) n1
    · have : decide (kf a = kf x) = false := decide_eq_false e
      simp only [this]
      rcases List.mem_cons.mp h with rfl | h
      · exact absurd rfl e
      · exact find_key n2 h
theorem ew_fldI {f : Str} (h : EW K ta δ m fun x m1 => ∃ (C : Addr) (fs : List (Str × D)), x = .ins C fs ∧ ∃ d : D, Cls K C ∧ NoAttr K C f ∧ fs.lookup f = some d ∧ Q d m1) : EW K (tFld K ta f) δ m Q :=
  ew_fld fun σ H s M QQ k => h σ H s M QQ fun x m1 v H1 ⟨C, fs, e, d, r⟩ => k x m1 v H1 ⟨C, fs, d, e, r⟩
theorem sw_fldA {ta tv : TE} {f : Str} {P : Ps} (h : EW K tv δ m fun d m1 => EW K ta δ m1 fun x m2 => ∃ (p C : Addr) (fs : List (Str × D)) (m3 : Mem), x = .adr p ∧ MUp m2 p (.ins C fs) (.ins C (putFD f d fs)) m3 ∧ Cls K C ∧ NoAttr K C f ∧ fs.length < 1000 ∧ P.nx δ m3) : SW K (sFld K ta tv f) δ m P :=
  sw_fld fun σ H s M QQ k => h σ H s M QQ fun d m1 v H1 q => k d m1 v H1 fun σ H s M QQ k => q σ H s M QQ fun x m2 v2 H2 ⟨p, C, fs, m3, e, ⟨i, hm, em⟩, c, n, l, q⟩ => k x m2 v2 H2 ⟨i, p, C, fs, e, hm, c, n, l, em ▸ q⟩
theorem ew_saddA {Pg : Program} {w : World} {t : TA} (h : EW K ta δ m fun x m1 => (∃ (p : Addr) (S : Key → Bool) (n : Nat), x = .adr p ∧ MAt m1 p (setC Pg w p S n)) ∧ AW K t δ m1 fun xs m2 => ∃ (p : Addr) (S : Key → Bool) (n : Nat) (k : Key) (m3 : Mem), x = .adr p ∧ xs = [kD k] ∧ MUp m2 p (setC Pg w p S n) (setC Pg w p (fun j => S j || decide (j = k)) (if S k = true then n else n + 1)) m3 ∧ n + 1 < scanBound ∧ Q .non m3) : EW K (tSAddK Pg w ta t) δ m Q :=
  ew_saddK fun σ H s M QQ k => h σ H s M QQ fun x m1 v H1 ⟨⟨p, S, n, e, ⟨i, hm⟩⟩, q⟩ => k x m1 v H1 ⟨⟨p, i, S, n, e, hm⟩, fun σ H s M QQ k => q σ H s M QQ fun xs m2 vs H2 ⟨p, S, n, kk, m3, e1, e2, ⟨i, hm, em⟩, hn, q⟩ => k xs m2 vs H2 ⟨p, i, S, n, kk, e1, e2, hm, hn, em ▸ q⟩⟩
theorem any_eqf {α : Type} [DecidableEq α] {f : α → D} (hf : ∀ x y, (f x).eqf (f y) = decide (x = y)) (o : List α) (g : α) : ((o.map f).any fun y => y.eqf (f g)) = decide (g ∈ o) := by
  induction o with
  | nil => rfl
  | cons a o ih =>
    rw [List.map_cons, List.any_cons, ih, hf]
    by_cases e : a = g
    · subst e
      simp
    · have e' : ¬ g = a := fun z => e z.symm
      simp [e, e']
theorem eqf_nat (x y : Nat) : (natD x).eqf (natD y) = decide (x = y) := by
  show ((x : Int) == (y : Int)) = _
  by_cases h : x = y
  · subst h; simp
  · rw [decide_eq_false h]
    exact beq_eq_false_iff_ne.mpr fun z => h (by omega)
theorem flat_nats (o : List Nat) : (o.map natD).all D.flat = true := by simp [D.flat]
section
variable {Pg : Program} {w : World}
theorem nin_nM {o : List Nat} {g : Nat} (hm : MAt m p (.lst (o.map natD))) (q : Q (.bl (!decide (g ∈ o))) m) : OW K (rNotInU Pg w K) (.int (g : Nat)) (.adr p) m Q := let ⟨_, hm⟩ := hm
  ow_or1 (rin_M hm (flat_nats o) rfl (by have := any_eqf eqf_nat o g; rw [if_pos rfl]; unfold natD at this ⊢; rw [this]; exact q))
theorem nin_DM {kvs : List (Key × D)} {x : Key} (hm : MAt m p (.dic kvs)) (q : Q (.bl (!(valD kvs x).isSome)) m) : OW K (rNotInU Pg w K) (kD x) (.adr p) m Q := let ⟨_, hm⟩ := hm
  ow_or2 (ow_or1 (rin_DM hm (by rw [if_pos rfl]; exact q)))
theorem in_S {S : Key → Bool} {n : Nat} {x : Key} (hm : MAt m p (setC Pg w p S n)) (q : Q (.bl (S x)) m) : OW K (rInU Pg w K) (kD x) (.adr p) m Q := let ⟨_, hm⟩ := hm
  ow_or2 (ow_or2 (ow_or1 (rin_S hm (by rw [if_neg Bool.false_ne_true]; exact q))))
theorem in_sg {c : Nat} {z : Str} (q : Q (.bl (decide (c ∈ z.cps.toList))) m) : OW K (rInU Pg w K) (.str ⟨#[c]⟩) (.str z) m Q := ow_or2 (ow_or2 (ow_or2 (ow_sgn q)))
end
/-- the first place of what is in a list of flat data -/
theorem idx_no {α : Type} [DecidableEq α] {g z : α} : ∀ {o : List α} {i : Nat}, i < o.idxOf g → o[i]? = some z → z ≠ g
  | [], i, _, hz => by simp at hz
  | a :: o, i, h, hz => by
    rw [List.idxOf_cons] at h
    by_cases e : a = g
    · have : (a == g) = true := by simpa using e
      rw [this] at h
      simp at h
    · have : (a == g) = false := by simpa using e
      rw [this] at h
      simp at h
      cases i with
      | zero =>
        simp at hz
        exact hz ▸ e
      | succ i =>
        rw [List.getElem?_cons_succ] at hz
        exact idx_no (by omega) hz
theorem mi_at {α : Type} [DecidableEq α] {f : α → D} {o : List α} {g : α} (hfl : ∀ x, (f x).fl 0 = true) (he : ∀ x y, PyData.eqv (f x).py (f y).py = decide (x = y)) (hg : g ∈ o) :
    (o.map f).all (D.fl 0) = true ∧ (f g).fl 0 = true ∧ (∃ z, (o.map f)[o.idxOf g]? = some z ∧ PyData.eqv z.py (f g).py = true) ∧ ∀ (i : Nat) (z : D), i < o.idxOf g → (o.map f)[i]? = some z → PyData.eqv z.py (f g).py = false := by
  refine ⟨by rw [List.all_eq_true]; intro x hx; obtain ⟨y, _, rfl⟩ := List.mem_map.mp hx; exact hfl y, hfl g, ⟨f g, ?_, by rw [he]; exact decide_eq_true rfl⟩, fun i z hi hz => ?_⟩
  · have hl := List.idxOf_lt_length_of_mem hg
    rw [List.getElem?_map, List.getElem?_eq_getElem hl, List.getElem_idxOf hl]
    rfl
  · rw [List.getElem?_map] at hz
    cases c : o[i]? with
    | none => rw [c] at hz; cases hz
    | some y =>
      rw [c] at hz
      cases hz
      rw [he]
      exact decide_eq_false (idx_no hi c)
theorem eqv_nat (x y : Nat) : PyData.eqv (natD x).py (natD y).py = decide (x = y) := by
  show ((x : Int) == (y : Int)) = _
  exact eqf_nat x y
theorem mi_nM {o : List Nat} {g : Nat} (hm : MAt m p (.lst (o.map natD))) (hg : g ∈ o) (q : Q (.int (o.idxOf g : Nat)) m) : MW K (rIndexD K) (.adr p) [.int (g : Nat)] m Q := by
  obtain ⟨_, hm⟩ := hm
  obtain ⟨h1, h2, h3, h4⟩ := mi_at (f := natD) (fun _ => rfl) eqv_nat hg
  exact mw_indexM (n := 0) hm (by decide) h1 h2 h3 h4 q
/-- l[i] of a mapped list -/
theorem at_map {α : Type} {f : α → D} {xs : List α} {i : Nat} {x : α} (h : xs[i]? = some x) : L2.atI (xs.map f) ((i : Nat) : Int) = some (f x) :=
  atI_lt (Int.natCast_nonneg i) (by rw [Int.toNat_natCast, List.getElem?_map, h]; rfl)
end
def ansD : Option Int → D
  | none => .non
  | some a => .int a
abbrev stepD (s : Step) : D := .tup [.int (s.1 : Nat), ansD s.2]
abbrev rowD (r : List Step) : D := .lst (r.map stepD)
abbrev tabD (T : Tab) : D := .lst (T.map rowD)
end DL

set_option Elab.async false
set_option linter.all false
set_option maxRecDepth 100000
set_option maxHeartbeats 1000000
set_option autoImplicit false
/-! What may be shown, and how long it is then. -/
namespace DL
open PySem PySem.Spec PyProof.Rows L2
structure Shw (n B : Nat) (d : PyData) : Prop where
  ok : d.showable = true
  nd : d.hasDict = false
  dp : d.depth ≤ n
  le : d.shown.length ≤ B
theorem Shw.up {n n' B B' : Nat} {d : PyData} (h : Shw n B d) (a : n ≤ n') (b : B ≤ B') : Shw n' B' d := ⟨h.ok, h.nd, Nat.le_trans h.dp a, Nat.le_trans h.le b⟩
theorem shw_all {n B : Nat} : ∀ {xs : List PyData}, (∀ x ∈ xs, Shw n B x) → PyData.showableAll xs = true ∧ PyData.hasDictAll xs = false ∧ PyData.depthAll xs ≤ n ∧ ((PyData.shownAll xs).map (·.length)).sum ≤ xs.length * B ∧ (PyData.shownAll xs).length = xs.length
  | [], _ => by simp [PyData.showableAll, PyData.hasDictAll, PyData.depthAll, PyData.shownAll]
  | x :: xs, h => by
    obtain ⟨a, b, c, d, e⟩ := shw_all (xs := xs) fun y hy => h y (List.mem_cons_of_mem _ hy)
    have hx := h x List.mem_cons_self
    have h4 := hx.le
    have h3 := hx.dp
    simp only [PyData.showableAll, PyData.hasDictAll, PyData.depthAll, PyData.shownAll, List.map_cons, List.sum_cons, List.length_cons, hx.ok, hx.nd, a, b, e, Bool.and_self, Bool.or_self, true_and]
    refine ⟨by omega, ?_⟩
    have e1 : (xs.length + 1) * B = xs.length * B + B := Nat.succ_mul _ _
    refine ⟨?_, trivial⟩
    omega
theorem Shw.list {n B : Nat} {xs : List PyData} (h : ∀ x ∈ xs, Shw n B x) : Shw (n + 1) (xs.length * (B + 2) + 3) (.list xs) := by
  obtain ⟨a, b, c, d, e⟩ := shw_all h
  have l := listText_len_le (PyData.shownAll xs)
  refine ⟨by simpa only [PyData.showable] using a, by simpa only [PyData.hasDict] using b, by simp only [PyData.depth]; omega, ?_⟩
  simp only [PyData.shown]
  rw [Nat.mul_add]
  rw [e] at l
  omega
theorem Shw.tuple {n B : Nat} {xs : List PyData} (h : ∀ x ∈ xs, Shw n B x) : Shw (n + 1) (xs.length * (B + 2) + 3) (.tuple xs) := by
  obtain ⟨a, b, c, d, e⟩ := shw_all h
  have l := tupleText_len_le (PyData.shownAll xs)
  refine ⟨by simpa only [PyData.showable] using a, by simpa only [PyData.hasDict] using b, by simp only [PyData.depth]; omega, ?_⟩
  simp only [PyData.shown]
  rw [Nat.mul_add]
  rw [e] at l
  omega
theorem Shw.str {x : Str} (h : PyData.strOk x = true) : Shw 0 (10 * x.length + 2) (.str x) := by
  refine ⟨by simp only [PyData.showable], by simp only [PyData.hasDict], by simp only [PyData.depth]; omega, ?_⟩
  simp only [PyData.shown]
  refine StrLaws.reprText_len x fun c hc => ?_
  unfold PyData.strOk at h
  rw [Array.all_eq_true'] at h
  have := of_decide_eq_true (h c (by simpa using hc))
  exact Nat.lt_of_lt_of_le this (by decide)
theorem cw_show {K : PySem.W.Frag} {m : Mem} {Q : D → Mem → Prop} {x : D} {d : PyData} {n B : Nat} (h : Res K m x d) (hx : (∃ xs, x = .lst xs) ∨ (∃ xs, x = .tup xs) ∨ ∃ p, x = .adr p) (s : Shw n B d) (hn : n ≤ 64) (hB : B ≤ sizeLine) (q : Q (.str d.shown) m) : CW K (rRepr K) [x] m Q :=
  cw_repr h hx s.ok s.nd (Nat.le_trans s.dp hn) (Nat.le_trans s.le hB) q
end DL

set_option Elab.async false
set_option linter.all false
set_option maxRecDepth 100000
set_option maxHeartbeats 1000000
set_option autoImplicit false
/-! More operations: the last bit, a text so often. -/
namespace DL
open PySem PySem.Spec PyProof.Rows L2
def rOdd : R2 := fun x y H Q => ∃ n : Nat, x = .int (n : Int) ∧ y = .int 1 ∧ Q (.int ((n % 2 : Nat) : Int)) H
theorem op_odd2 {X : Cx} : OpR X (binaryOp .BitAnd) rOdd := op_odd
section
variable {K : PySem.W.Frag} {m : Mem} {Q : D → Mem → Prop}
theorem ow_odd {n : Nat} (q : Q (.int ((n % 2 : Nat) : Int)) m) : OW K rOdd (.int (n : Nat)) (.int 1) m Q := fun H v w M a b QQ k => by
  cases a
  cases b
  exact ⟨n, rfl, rfl, k _ m _ H q (Sub.refl _) M (.int _)⟩
theorem ow_mulS {x : Str} {i : Int} (h : PySem.MulOk x i) (q : Q (.str (Txt.mul x i)) m) : OW K rMulU (.str x) (.int i) m Q := ow_or2 (ow_or2 fun H v w M a b QQ k => by
  cases a
  cases b
  exact ⟨x, i, rfl, rfl, h, k _ m _ H q (Sub.refl _) M (.str _)⟩)
end
end DL

set_option Elab.async false
set_option linter.all false
set_option maxRecDepth 100000
set_option maxHeartbeats 1000000
set_option autoImplicit false
/-! Calls in any shape (positions, keywords, defaults); own ==; lists that may be cells. -/
namespace DL
open PySem PySem.Spec PyProof.Rows L2
def pickN {α : Type} (idx : List Nat) (xs : List α) : List α := idx.filterMap fun i => xs[i]?
theorem RdL.none_of {K : PySem.W.Frag} {F : Hp} {vs : List V} {ds : List D} {i : Nat} (r : RdL K F vs ds) (e : ds[i]? = none) : vs[i]? = none := by
  have l := r.length
  rw [List.getElem?_eq_none_iff] at e ⊢
  omega
theorem pick_rd {K : PySem.W.Frag} {F : Hp} {vs : List V} {ds : List D} (r : RdL K F vs ds) : ∀ idx : List Nat, RdL K F (pickN idx vs) (pickN idx ds)
  | [] => .nil
  | i :: idx => by
    have ih := pick_rd r idx
    unfold pickN at ih ⊢
    cases c : ds[i]? with
    | none => rw [List.filterMap_cons_none (by exact r.none_of c), List.filterMap_cons_none (by exact c)]; exact ih
    | some d =>
      obtain ⟨v, a, b⟩ := r.get c
      rw [List.filterMap_cons_some (by exact a), List.filterMap_cons_some (by exact c)]
      exact .cons b ih
theorem pick_vals {vs : List V} {us : List Value} (r : Vals vs us) : ∀ idx : List Nat, Vals (pickN idx vs) (pickN idx us)
  | [] => .nil
  | i :: idx => by
    have ih := pick_vals r idx
    unfold pickN at ih ⊢
    cases c : vs[i]? with
    | none => rw [List.filterMap_cons_none (by exact c), List.filterMap_cons_none (by exact r.none_of c)]; exact ih
    | some d =>
      obtain ⟨v, a, b⟩ := r.get c
      rw [List.filterMap_cons_some (by exact c), List.filterMap_cons_some (by exact a)]
      exact .cons b ih
/-- how a call with n values and the keywords ks binds; dd the defaults -/
def KBS (K : PySem.W.Frag) (f : Addr) (ps : List Str) (n : Nat) (ks : List Str) (idx : List Nat) (dd : List D) : Prop := ∀ fd, FdAt K f fd → ∃ (its : List Value) (dvs : List V), (∀ F, RdL K F dvs dd) ∧ Vals dvs its ∧
  ∀ (s : Shared) (us ws : List Value), K.In s.heap → us.length = n → ws.length = ks.length → BindsTo s fd ⟨us, ks.zip ws⟩ (ps.zip (pickN idx (us ++ (ws ++ its))))
theorem KBS.kbn {K : PySem.W.Frag} {f : Addr} {ps ks : List Str} {n : Nat} {idx : List Nat} {dd : List D} {fd : FuncData} (h : KBS K f ps n ks idx dd) (e : FdAt K f fd) :
    ∃ (its : List Value) (dvs : List V), (∀ F, RdL K F dvs dd) ∧ KBn K fd ps n ks (fun us ws => pickN idx (us ++ (ws ++ its))) (fun vs zs => pickN idx (vs ++ (zs ++ dvs))) := by
  obtain ⟨its, dvs, hd, hv, hb⟩ := h fd e
  exact ⟨its, dvs, hd, hb, fun r1 r2 => pick_vals (r1.append (r2.append hv)) idx⟩
section
variable {K : PySem.W.Frag} {x qual : Str} {st : Stmt} {f T : Addr} {ps ks : List Str} {oc kV dc pm cd ct oT : Value} {od an dT : Option Addr} {sl sT : Array (Option Value)} {its : Array Value} {nT n : Nat} {idx : List Nat} {dd : List D} {dvs : List V}
end
/-! ### the readings of such calls -/
def tFunS (K : PySem.W.Frag) (n m : Nat) (idx : List Nat) (dd : List D) (sp : Sp) (E : XK) (t tk : TA) : TE := fun σ H Q => t σ H fun vs H1 => tk σ H1 fun zs H2 => vs.length = n ∧ zs.length = m ∧ ∀ dvs, (∀ F, RdL K F dvs dd) → sp (pickN idx (vs ++ (zs ++ dvs))) H2 Q E
def tMethS (K : PySem.W.Frag) (C : Addr) (nm : Str) (n m : Nat) (idx : List Nat) (dd : List D) (sp : Sp) (E : XK) (ta : TE) (t tk : TA) : TE := fun σ H Q => ta σ H fun x H1 => ∃ a dx fs, x = .ref a ∧ H1 a = some (.ins C dx fs) ∧ fs.lookup nm = none ∧
  t σ H1 fun vs H2 => tk σ H2 fun zs H3 => vs.length = n ∧ zs.length = m ∧ ∀ dvs, (∀ F, RdL K F dvs dd) → sp (pickN idx (x :: (vs ++ (zs ++ dvs)))) H3 Q E
def tMakeS (K : PySem.W.Frag) (C : Addr) (n m : Nat) (idx : List Nat) (dd : List D) (sp : Sp) (E : XK) (t tk : TA) : TE := fun σ H Q => t σ H fun vs H1 => tk σ H1 fun zs H2 => vs.length = n ∧ zs.length = m ∧ ∀ dvs, (∀ F, RdL K F dvs dd) →
  ∀ x dx, H2 x = none → H2 dx = none → dx ≠ x → sp (pickN idx (.ref x :: (vs ++ (zs ++ dvs)))) (upd (upd H2 dx (.own x)) x (.ins C dx [])) (fun v H3 => v = .non ∧ Q (.ref x) H3) E
section
variable {X : Cx} {k n : Nat} {f C : Addr} {ps ks : List Str} {Pf : FS} {x nm : Str} {p pos apos : Pos} {e o : Expr} {es : List Expr} {kws : List Keyword} {ta : TE} {t tk : TA} {idx : List Nat} {dd : List D} (K : PySem.W.Frag) (hK : X.K = K)
include hK
end
section
variable {K : PySem.W.Frag} {δ : List (Option D)} {m : Mem} {Q : D → Mem → Prop} {ta te : TE} {t tk : TA} {Pf : FS} {E : XK} {n l : Nat} {idx : List Nat} {dd : List D} {C : Addr} {nm : Str}
end
/-! ### own == -/
def rOwnEq (C : Addr) (sp : Sp) : R2 := fun x y H Q => ∃ a b dx dy fs gs, x = .ref a ∧ y = .ref b ∧ H a = some (.ins C dx fs) ∧ H b = some (.ins C dy gs) ∧ sp [.ref a, .ref b] H (fun v H' => ∃ r, v = .bl r ∧ Q v H') E0
section
variable {X : Cx} {k : Nat} {f C : Addr} {ps : List Str} {Pf : FS}
theorem op_ownEq (hs : PySem.W.findIn X.K (.ref C) "__eq__" = some (some (.ref f)) ∧ PySem.W.isFn X.K (.ref f) = true) (D : Def X.prog X.w X.K X.mg X.base k f ps Pf) (hr : Room k X.A) : OpR X (compareOp .Eq) (rOwnEq C (spOf X.K Pf)) := by
  obtain ⟨fd, F, hb, _⟩ := D
  intro pins s σ H x y v u Q I rx ry h
  obtain ⟨a, b, dx, dy, fs, gs, rfl, rfl, ha, hb', q⟩ := h
  cases rx
  cases ry
  obtain ⟨mA, J, _⟩ := ins_get I.hok ha
  obtain ⟨mB, J', _⟩ := ins_get I.hok hb'
  obtain ⟨od, J, _⟩ := J.look
  obtain ⟨od', J', _⟩ := J'.look
  obtain ⟨mm, hF⟩ := I.fr
  show wpAny (model X.prog X.w) X.A (richCompare .Eq (.ref a) (.ref b)) (EP X pins σ Q) X.xe s
  refine PySem.W.cmp_K (op := .Eq) (tb := .ref C) hr.units0 hF I.ok.mod.kin J J'.type (by simp [PySem.W.notFirst]) hs.1 hs.2 ?_
  have hl := F.len _ _ _ _ q
  have r2 : Vals [V.ref a, V.ref b] [Value.ref a, Value.ref b] := .cons rfl (.cons rfl .nil)
  refine wpAny_call (codeAny_mono (F.run X.A X.stack s H ⟨[.ref a, .ref b], []⟩ [.ref a, .ref b] [.ref a, .ref b] _ E0 hr I.env0 (by
    have := hb s [.ref a, .ref b] I.kIn (by simpa using hl)
    simpa using this) r2 q) fun r s' hq => ?_)
  cases r with
  | error e => exact hq.elim
  | ok fl =>
    cases fl with
    | ret w =>
      obtain ⟨z, H', I', rz, r, ez, q2⟩ := I.after hq
      subst ez
      cases rz
      exact ⟨.bl r, H', I', rfl, q2⟩
    | next => exact False.elim hq
    | brk => exact False.elim hq
    | cont => exact False.elim hq
end
theorem kx_ownEq {X : Cx} {k : Nat} {f C : Addr} {ps : List Str} {Pf : FS} (K : PySem.W.Frag) (hK : X.K = K) (hs : PySem.W.findIn K (.ref C) "__eq__" = some (some (.ref f)) ∧ PySem.W.isFn K (.ref f) = true) (D : Def X.prog X.w K X.mg X.base k f ps Pf) (hr : Room k X.A) : OpR X (compareOp .Eq) (rOwnEq C (spOf K Pf)) := by
  subst hK; exact op_ownEq hs D hr
theorem ow_own {K : PySem.W.Frag} {m : Mem} {Q : D → Mem → Prop} {C : Addr} {Pf : FS} {fs gs : List (Str × D)} (h : Pf [.ins C fs, .ins C gs] m fun d m' => ∃ b, d = .bl b ∧ Q d m') : OW K (rOwnEq C (spOf K Pf)) (.ins C fs) (.ins C gs) m Q := fun H v w M a b QQ k => by
  obtain ⟨x, dx, xs, rfl, e, nm, r⟩ := ins_at a
  obtain ⟨y, dy, ys, rfl, e', nm', r'⟩ := ins_at b
  refine ⟨x, y, dx, dy, xs, ys, rfl, rfl, e, e', _, m, _, .cons a (.cons b .nil), M, h, fun d m' v H' ⟨z, ed, q⟩ s2 M2 r2 => ?_⟩
  subst ed
  cases r2
  exact ⟨z, rfl, k _ m' _ H' q s2 M2 (.bl z)⟩
/-! ### isinstance -/
section
variable {K : PySem.W.Frag} {m : Mem} {Q : D → Mem → Prop}
/-- what isinstance asks of an own class -/
structure IsOwn (K : PySem.W.Frag) (C : Addr) : Prop where
  ha : PySem.W.findIn K (.ref C) "__class__" = some (some (.builtin "object.__class__"))
  hn : PySem.W.specialIn K (.builtin "object.__class__") "__get__" = some (some (.builtin "getset_descriptor.__get__"))
  tk : PySem.W.takesIn K (.builtin "object.__class__") = some true
  mro : PySem.W.mroIn K C (.type "object") = some true
theorem cw_isiO {C : Addr} {fs : List (Str × D)} (cl : Cls K C) (io : IsOwn K C) (q : Q (.bl true) m) : CW K (rIsi K) [.ins C fs, .adr C] m Q := fun H vs M a QQ k => by
  cases a with
  | cons a a2 =>
    cases a2 with
    | cons a2 a3 =>
      cases a3
      cases a2
      obtain ⟨p, dx, xs, rfl, e, nm, r⟩ := ins_at a
      refine ⟨_, _, .ref C, .ref C, true, rfl, .own C, .base (.ins e cl io.ha io.hn io.tk io.mro), ?_, k _ m _ H q (Sub.refl _) M (.bl true)⟩
      unfold PySem.W.kitOne
      rw [if_pos (by simp)]
/-! ### a list that is data or a cell -/
def SeqIn (m : Mem) (x : D) (ds : List D) : Prop := x = .lst ds ∨ ∃ p, x = .adr p ∧ MAt m p (.lst ds)
theorem SeqIn.app {m r : Mem} {x : D} {ds : List D} (h : SeqIn m x ds) : SeqIn (m ++ r) x ds := h.imp id fun ⟨p, e, h⟩ => ⟨p, e, h.app⟩
theorem SeqIn.of {ds : List D} : SeqIn m (.lst ds) ds := .inl rfl
theorem SeqIn.at_ {p : Addr} {ds : List D} (h : MAt m p (.lst ds)) : SeqIn m (.adr p) ds := .inr ⟨p, rfl, h⟩
theorem SeqIn.get {x : D} {ds : List D} {H : Hp} {v : V} (h : SeqIn m x ds) (M : MemOk K m H) (r : Rd K (hide m H) v x) : ∃ a xs, v = .ref a ∧ H a = some (.lst xs) ∧ RdL K (hide m H) xs ds := by
  rcases h with rfl | ⟨p, rfl, i, hm⟩
  · exact lst_at r
  · cases r
    obtain ⟨xs, e, r⟩ := cell_at M hm
    exact ⟨p, xs, rfl, e, r⟩
theorem lw_Q {x : D} {ds : List D} {lo hi : Option Int} (h : SeqIn m x ds) (q : Q (.lst (cutD ds lo hi)) m) : LW (K := K) (rSlU K) x lo hi m Q := fun H v M a QQ k => by
  obtain ⟨p, vs, rfl, e, r⟩ := h.get M a
  refine .inl ⟨p, vs, rfl, SqL.of e, fun z hz => ?_⟩
  obtain ⟨M2, s2, r3⟩ := new_lst M (r.cut lo hi) hz
  exact k _ m _ _ q s2 M2 r3
theorem Res.seq {x : D} {ds : List D} {ps : List PyData} (h : SeqIn m x ds) (r : ResL K m ds ps) : Res K m x (.list ps) := by
  rcases h with rfl | ⟨p, rfl, hm⟩
  · exact Res.lst r
  · exact Res.adr hm r
end
/-! ### walks over a list that is data or a cell -/
section
variable {K : PySem.W.Frag} {δ : List (Option D)} {m : Mem} {Q : D → Mem → Prop} {te tl : TE} {P : Ps} {t : TS} {tt : TT} {g : TG}
/-- a comprehension over a list that is data or a cell -/
theorem ew_lcQ {vs : List Nat} (tm : Tame g vs) (h : EW K tl δ m fun x m1 => ∃ (α : Type) (xs : List α) (f : α → D), SeqIn m1 x (xs.map f) ∧ ∃ Iv : Nat → List D → Mem → Prop, Iv 0 [] m1 ∧ (∀ (j : Nat) (acc : List D) (m' : Mem), Iv j acc m' → SeqIn m' x (xs.map f)) ∧
      (∀ (j : Nat) (y : α) (acc : List D) (m' : Mem) (z : Addr), xs[j]? = some y → Iv j acc m' → acc.length < sizeLine ∧ GW K g (f y) (wipeD δ vs) (m' ++ [(z, .lst acc)]) fun δ2 m2 => TW K tt δ2 m2 fun b m3 =>
        if b = true then EW K te δ2 m3 fun y m4 => ∃ m5, m4 = m5 ++ [(z, .lst acc)] ∧ Iv (j + 1) (acc ++ [y]) m5 else ∃ m5, m3 = m5 ++ [(z, .lst acc)] ∧ Iv (j + 1) acc m5) ∧
      (∀ (acc : List D) (m' : Mem) (z : Addr), Iv xs.length acc m' → Q (.adr z) (m' ++ [(z, .lst acc)]))) : EW K (tLc (iAny K tl) g tt te vs) δ m Q := fun σ H s M QQ k =>
  h σ H s M _ fun x m1 v0 H1 ⟨α, xs, f, hx, Iv, h0, hsq, hs, hd⟩ s1 M1 r1 => by
    obtain ⟨a, ws, rfl, ea, ra⟩ := hx.get M1 r1
    refine .inl ⟨a, rfl, ⟨ws, SqL.of ea⟩, ?_⟩
    intro z hz
    have base : Sub (hide m1 H1) (hide (m1 ++ [(z, .lst [])]) (upd H1 z (.lst []))) := by
      rw [hide_cell hz]
      exact Sub.refl _
    refine ⟨fun i n H' => n = xs.length - i ∧ i ≤ xs.length ∧ ∃ acc m', Iv i acc m' ∧ Sub (hide m1 H1) (hide (m' ++ [(z, .lst acc)]) H') ∧ MemOk K (m' ++ [(z, .lst acc)]) H', ⟨xs.length, rfl, Nat.zero_le _, [], m1, h0, base, M1.cell (c := .lst []) hz ⟨[], upd_same, .nil⟩⟩, ?_⟩
    rintro i n H' ⟨rfl, hi, acc, m', hI, s2, M2⟩
    obtain ⟨a', ws', ev, ea', ra'⟩ := (hsq i acc m' hI).app.get M2 (r1.mono s2)
    cases ev
    have lw : ws'.length = xs.length := by rw [ra'.length, List.length_map]
    by_cases hlt : i < xs.length
    · refine .inr ⟨⟨ws', ws'[i]'(by omega), SqL.of ea', by simp [lw, hlt]⟩, fun H3 => ∃ acc m3, Iv (i + 1) acc m3 ∧ Sub (hide m1 H1) (hide (m3 ++ [(z, .lst acc)]) H3) ∧ MemOk K (m3 ++ [(z, .lst acc)]) H3, fun H3 q => ⟨xs.length - (i + 1), by omega, rfl, hlt, q⟩, fun x3 H3 y => ?_⟩
      have hdi : xs[i]? = some xs[i] := List.getElem?_eq_getElem hlt
      obtain ⟨rfl, y⟩ := y
      obtain ⟨u, h1, h2⟩ := ra'.get (show (xs.map f)[i]? = some (f xs[i]) by rw [List.getElem?_map, hdi]; rfl)
      have zz := y ws' (SqL.of ea')
      rw [h1] at zz
      cases zz
      obtain ⟨hl, step⟩ := hs i _ acc m' z hdi hI
      have sb : Sub (hide m H) (hide (m' ++ [(z, .lst acc)]) H3) := s1.trans s2
      refine tm _ σ (wipe σ vs) H3 _ (wipe_idem σ vs) ?_
      refine step (wipe σ vs) H3 _ ((s.mono sb).wipe vs) M2 h2 _ fun δ4 m4 σ4 H4 q4 s4 S4 M4 => ?_
      refine q4 σ4 H4 S4 M4 _ fun b m5 H5 q5 s5 M5 => ?_
      cases b with
      | true =>
        have q5' : EW K te δ4 m5 fun y m4 => ∃ m5, m4 = m5 ++ [(z, .lst acc)] ∧ Iv (i + 1) (acc ++ [y]) m5 := q5
        refine q5' σ4 H5 (S4.mono s5) M5 _ fun yd m6 yv H6 q6 s6 M6 r6 => ?_
        obtain ⟨m7, e7, hI7⟩ := q6
        subst e7
        obtain ⟨xs6, ex, lx, eh, M12⟩ := acc_step M6 r6
        refine ⟨xs6, ex, by rw [lx]; exact hl, acc ++ [yd], m7, hI7, ?_, M12⟩
        rw [eh]
        exact s2.trans (s4.trans (s5.trans s6))
      | false =>
        have q5' : ∃ m6, m5 = m6 ++ [(z, .lst acc)] ∧ Iv (i + 1) acc m6 := q5
        obtain ⟨m7, e7, hI7⟩ := q5'
        subst e7
        exact ⟨acc, m7, hI7, s2.trans (s4.trans s5), M5⟩
    · have e : i = xs.length := by omega
      subst e
      exact .inl ⟨⟨ws', SqL.of ea', by omega⟩, k (.adr z) _ (.ref z) H' (hd acc m' z hI) (s1.trans s2) M2 (.adr z)⟩
end
/-! ### any cell of a memory, changed -/
theorem MAt.up {m : Mem} {p : Addr} {c : Cell} (h : MAt m p c) (c' : Cell) : ∃ m', MUp m p c c' m' := let ⟨i, h⟩ := h; ⟨_, i, h, rfl⟩
theorem MUp.keeps {m m' : Mem} {p q : Addr} {c c' d : Cell} (h : MUp m p c c' m') (g : MAt m q d) : MAt m' q d ∨ (q = p ∧ MAt m' q c') := by
  obtain ⟨i, h, rfl⟩ := h
  obtain ⟨j, g⟩ := g
  by_cases e : i = j
  · subst e
    rw [h] at g
    cases g
    refine .inr ⟨rfl, i, ?_⟩
    rw [List.getElem?_set_self (List.getElem?_eq_some_iff.mp h).1]
  · exact .inl ⟨j, by rw [List.getElem?_set_ne e]; exact g⟩
theorem Shw.int {i : Int} (h : i.natAbs < 10 ^ 12) : Shw 0 13 (.int i) := by
  refine ⟨?_, by simp only [PyData.hasDict], by simp only [PyData.depth]; omega, PyData.shown_int_le h⟩
  simp only [PyData.showable, decide_eq_true_eq]
  by_cases z : i.natAbs = 0
  · rw [z]; decide
  · rw [Nat.log2_lt z]
    exact Nat.lt_trans h (by decide)
theorem Shw.non : Shw 0 13 .none := ⟨by simp only [PyData.showable], by simp only [PyData.hasDict], by simp only [PyData.depth]; omega, by simp only [PyData.shown]; decide⟩
end DL

set_option Elab.async false
set_option linter.all false
set_option maxRecDepth 100000
set_option maxHeartbeats 1000000
set_option autoImplicit false
/-! service[name]; zip; lists repeated; list(range); len(set(..)); tuple(..). -/
namespace DL
open PySem PySem.Spec PyProof.Rows L2
section
variable {X : Cx} {k : Nat} {f C : Addr} {ps : List Str} {Pf : FS} {a b : Expr} {ta tb : TE} {pos : Pos}
end
section
variable {K : PySem.W.Frag} {δ : List (Option D)} {m : Mem} {Q : D → Mem → Prop} {te ta tb : TE}
end
section
variable {K : PySem.W.Frag} {δ : List (Option D)} {m : Mem} {Q : D → Mem → Prop} {te ta tb : TE}
end
section
variable {K : PySem.W.Frag} {δ : List (Option D)} {m : Mem} {Q : D → Mem → Prop} {te : TE} {tt : TT} {g : TG} {wi : TI}
end
end DL

set_option Elab.async false
set_option linter.all false
set_option maxRecDepth 100000
set_option maxHeartbeats 1000000
set_option autoImplicit false
/-! != of an own class with its own ==; sorted, dict(..), dicts by comprehension. -/
namespace DL
open PySem PySem.Spec PyProof.Rows L2
theorem ifBound_slot {M : Model} {A : Around} {E : Value → Shared → Prop} {s : Shared} {self : Value} {name : PySem.Str} {id : String} {args : List Value} {Q : Option Value → Shared → Prop} (sp : PySem.W.Looks M s.heap (specialOf self name) (some (.builtin id))) (hb : bindSpecial (.builtin id) self = pure (.builtin id, [self]))
    (hc : wpAny M A (call (.builtin id) (self :: args)) (fun v => Q (some v)) E s) : wpAny M A (callSpecialIfBound? self name args) Q E s := by
  simp only [callSpecialIfBound?, bindSpecialIfBound?]
  refine wpAny_holding (wpAny_bind (wpAny_bind (sp.here ?_)))
  simp only [hb]
  refine wpAny_bind (wpAny_askSetting (wpAny_ite ?_))
  have fin : wpAny M A (call (.builtin id) ([self] ++ args) >>= fun v => pure (some v)) Q E s := wpAny_bind (wpAny_mono hc (fun v s' h' => wpAny_pure h') fun _ _ h' => h')
  split
  · exact wpAny_bind (wpAny_pure (wpAny_pure fin))
  · exact wpAny_tryCatch (wpAny_bind (wpAny_pure (wpAny_pure fin)))
def rOwnNe (C : Addr) (sp : Sp) : R2 := fun x y H Q => ∃ a b dx dy fs gs, x = .ref a ∧ y = .ref b ∧ H a = some (.ins C dx fs) ∧ H b = some (.ins C dy gs) ∧ sp [.ref a, .ref b] H (fun v H' => ∃ r, v = .bl r ∧ Q (.bl (!r)) H') E0
/-- what != asks of an own class -/
structure NeOwn (K : PySem.W.Frag) (C : Addr) : Prop where
  ne : PySem.W.findIn K (.ref C) "__ne__" = some (some (.builtin "object.__ne__"))
  mro : PySem.W.mroIn K C (.type "object") = some true
section
variable {X : Cx} {k : Nat} {f C : Addr} {ps : List Str} {Pf : FS}
theorem op_ownNe (hs : PySem.W.findIn X.K (.ref C) "__eq__" = some (some (.ref f)) ∧ PySem.W.isFn X.K (.ref f) = true) (N : NeOwn X.K C) (D : Def X.prog X.w X.K X.mg X.base k f ps Pf) (hr : Room (k + 1) X.A) : OpR X (compareOp .NotEq) (rOwnNe C (spOf X.K Pf)) := by
  obtain ⟨fd, F, hb, _⟩ := D
  intro pins s σ H x y v u Q I rx ry h
  obtain ⟨a, b, dx, dy, fs, gs, rfl, rfl, ha, hb', q⟩ := h
  cases rx
  cases ry
  obtain ⟨mA, J, _⟩ := ins_get I.hok ha
  obtain ⟨mB, J', _⟩ := ins_get I.hok hb'
  obtain ⟨od, J, _⟩ := J.look
  obtain ⟨od', J', _⟩ := J'.look
  have hu : X.A.units < cLine := hr.units0
  show wpAny (model X.prog X.w) X.A (richCompare .NotEq (.ref a) (.ref b)) (EP X pins σ Q) X.xe s
  have hl := F.len _ _ _ _ q
  have r2 : Vals [V.ref a, V.ref b] [Value.ref a, Value.ref b] := .cons rfl (.cons rfl .nil)
  have run : wpAny (model X.prog X.w) X.A.in1 (call (.ref f) [.ref a, .ref b]) (fun v s' => ∃ b, v = .bool b ∧ EP X pins σ Q (.bool (!b)) s') X.xe s := by
    refine wpAny_call (codeAny_mono (F.run X.A.in1 X.stack s H ⟨[.ref a, .ref b], []⟩ [.ref a, .ref b] [.ref a, .ref b] _ E0 hr.in1 I.env0.in1 (by
      have := hb s [.ref a, .ref b] I.kIn (by simpa using hl)
      simpa using this) r2 q) fun r s' hq => ?_)
    cases r with
    | error e => exact hq.elim
    | ok fl =>
      cases fl with
      | ret w =>
        obtain ⟨z, H', I', rz, r, ez, q2⟩ := I.after hq
        subst ez
        cases rz
        exact ⟨r, rfl, .bl (!r), H', I', rfl, q2⟩
      | next => exact False.elim hq
      | brk => exact False.elim hq
      | cont => exact False.elim hq
  have body : wpAny (model X.prog X.w) X.A.in1 (Builtin.«object.__ne__» ⟨[.ref a, .ref b], []⟩) (fun fin s' => ∃ b, fin = .done (.ret (.bool b)) ∧ EP X pins σ Q (.bool b) s') X.xe s := by
    have hu1 : X.A.in1.units < cLine := hr.in1.units0
    have kin := I.kIn
    obtain ⟨hp, g, d, t, os⟩ := s
    unfold Builtin.«object.__ne__»
    repeat (first
      | with_reducible refine wpAny_cRoomFor hu1 ?_
      | (refine wpAny_bind (m := callSpecialIfBound? (.ref a) (Str.ofString "__eq__") [.ref b])
          (PySem.W.ifBound_K kin J hs.1 hs.2 (wpAny_mono run (fun r s' hr => by
            obtain ⟨c, rfl, hq⟩ := hr
            have fin : ∃ b, Fin.done (.ret (.bool (!c))) = .done (.ret (.bool b)) ∧ EP X pins σ Q (.bool b) s' := ⟨!c, rfl, hq⟩
            repeat (first | exact fin | exact wpAny_pure fin | exact wpAny_truthy_bool fin | (refine wpAny_bind (m := truthy (.bool _)) (wpAny_truthy_bool ?_)) | wp_step)) fun _ _ e => e)))
      | wp_step)
  have try1 : wpAny (model X.prog X.w) X.A (tryCompare (.ref a) "__ne__" (.ref b)) (fun r s' => ∃ v, r = some v ∧ EP X pins σ Q v s') X.xe s := by
    simp only [tryCompare]
    refine wpAny_bind (ifBound_slot (J.type.andThen (PySem.W.looks_findIn I.kIn N.ne)) (PySem.F.cmp_object.ne.bind _) (wpAny_call (codeAny_call_builtin PySem.F.cmp_object.ne.plain PySem.F.cmpEntry_ne
      (PySem.W.check_slot PySem.F.cmpKind_ne PySem.F.cmpSplit_ne (J.type.andThen (PySem.W.looks_mroIn I.kIn N.mro)) (PySem.F.cmpArgs_ne _ _) (wpAny_mono body (fun fin s' hv => ?_) fun _ _ e => e)))))
    obtain ⟨b, rfl, hq⟩ := hv
    first | exact wpAny_pure ⟨_, rfl, hq⟩ | exact wpAny_pure (wpAny_pure ⟨_, rfl, hq⟩) | exact ⟨b, rfl, hq⟩
  unfold richCompare
  simp only [oneThing_ref]
  refine wpAny_holding ?_
  refine wpAny_bind (wpAny_cRoomFor hu ?_)
  rw [cmpInfo_NotEq]
  dsimp only
  refine wpAny_bind (J.type.here (wpAny_bind (J'.type.here ?_)))
  rw [show (Value.ref C != Value.ref C) = false from by simp]
  simp only [Bool.false_eq_true, if_false]
  refine wpAny_bind (wpAny_pure ?_)
  simp only [Bool.false_eq_true, if_false]
  refine wpAny_bind (wpAny_mono try1 (fun r s' hv => ?_) fun _ _ e => e)
  obtain ⟨v, rfl, hq⟩ := hv
  first | exact wpAny_pure hq | exact wpAny_pure (wpAny_pure hq)
end
theorem kx_ownNe {X : Cx} {k : Nat} {f C : Addr} {ps : List Str} {Pf : FS} (K : PySem.W.Frag) (hK : X.K = K) (hs : PySem.W.findIn K (.ref C) "__eq__" = some (some (.ref f)) ∧ PySem.W.isFn K (.ref f) = true) (N : NeOwn K C) (D : Def X.prog X.w K X.mg X.base k f ps Pf) (hr : Room (k + 1) X.A) : OpR X (compareOp .NotEq) (rOwnNe C (spOf K Pf)) := by
  subst hK; exact op_ownNe hs N D hr
theorem ow_ownNe {K : PySem.W.Frag} {m : Mem} {Q : D → Mem → Prop} {C : Addr} {Pf : FS} {fs gs : List (Str × D)} (h : Pf [.ins C fs, .ins C gs] m fun d m' => ∃ b, d = .bl b ∧ Q (.bl (!b)) m') : OW K (rOwnNe C (spOf K Pf)) (.ins C fs) (.ins C gs) m Q := fun H v w M a b QQ k => by
  obtain ⟨x, dx, xs, rfl, e, nm, r⟩ := ins_at a
  obtain ⟨y, dy, ys, rfl, e', nm', r'⟩ := ins_at b
  refine ⟨x, y, dx, dy, xs, ys, rfl, rfl, e, e', _, m, _, .cons a (.cons b .nil), M, h, fun d m' v H' ⟨z, ed, q⟩ s2 M2 r2 => ?_⟩
  subst ed
  cases r2
  exact ⟨z, rfl, k _ m' _ H' q s2 M2 (.bl (!z))⟩
/-! ### sorted texts -/
def leT (a b : List Nat) : Prop := ltCps b a = false
theorem leT_anti : ∀ {a b : List Nat}, leT a b → leT b a → a = b
  | [], [], _, _ => rfl
  | [], _ :: _, _, h => by simp [leT, ltCps] at h
  | _ :: _, [], h, _ => by simp [leT, ltCps] at h
  | a :: r, b :: t, h, h' => by
    unfold leT at h h'
    simp only [ltCps, Bool.or_eq_false_iff, decide_eq_false_iff_not, Bool.and_eq_false_iff, beq_eq_false_iff_ne, ne_eq] at h h'
    have e : a = b := by omega
    subst e
    rw [leT_anti (a := r) (b := t) (by rcases h.2 with h | h; exact absurd rfl h; exact h) (by rcases h'.2 with h | h; exact absurd rfl h; exact h)]
def SortS (l : List Str) : Prop := l.Pairwise fun a b => leT a.cps.toList b.cps.toList
theorem str_ext {a b : Str} (h : a.cps.toList = b.cps.toList) : a = b := by
  obtain ⟨a⟩ := a
  obtain ⟨b⟩ := b
  congr 1
  exact Array.ext' h
theorem SortS.uniq {l l' : List Str} (h : SortS l) (h' : SortS l') (p : l.Perm l') : l = l' :=
  List.Perm.eq_of_pairwise (le := fun a b : Str => leT a.cps.toList b.cps.toList) (fun a b _ _ h1 h2 => str_ext (leT_anti h1 h2)) h h' p
theorem SortS.pairs {α : Type} {l l' : List (Str × α)} (h : SortS (l.map (·.1))) (h' : SortS (l'.map (·.1))) (nd : (l.map (·.1)).Nodup) (p : l.Perm l') : l = l' := by
  have e := h.uniq h' (p.map _)
  refine List.ext_getElem? fun i => ?_
  have ei : (l.map (·.1))[i]? = (l'.map (·.1))[i]? := by rw [e]
  rw [List.getElem?_map, List.getElem?_map] at ei
  cases c : l[i]? with
  | none =>
    rw [c] at ei
    cases c' : l'[i]? with
    | none => rfl
    | some y => rw [c'] at ei; cases ei
  | some x =>
    rw [c] at ei
    cases c' : l'[i]? with
    | none => rw [c'] at ei; cases ei
    | some y =>
      rw [c'] at ei
      have e1 : x.1 = y.1 := by simpa using ei
      have hy : y ∈ l := p.mem_iff.mpr (List.mem_of_getElem? c')
      obtain ⟨j, hj⟩ := List.getElem?_of_mem hy
      have il : i < (l.map (·.1)).length := by rw [List.length_map]; exact (List.getElem?_eq_some_iff.mp c).1
      have : i = j := (List.getElem?_inj il nd).mp (by rw [List.getElem?_map, List.getElem?_map, c, hj]; show some x.1 = some y.1; rw [e1])
      subst this
      rw [c] at hj
      exact hj
end DL

set_option Elab.async false
set_option linter.all false
set_option maxRecDepth 100000
set_option maxHeartbeats 1000000
set_option autoImplicit false
/-! sorted, dict(..), dicts by comprehension with a test. -/
namespace DL
open PySem PySem.Spec PyProof.Rows L2
section
variable {K : PySem.W.Frag} {δ : List (Option D)} {m : Mem} {Q : D → Mem → Prop}
end
theorem tw_mid {K : PySem.W.Frag} {δ : List (Option D)} {m : Mem} {tt : TT} {Q : Bool → Mem → Prop} (R : Bool → Mem → Prop) (h : TW K tt δ m R) (n : ∀ b m', R b m' → Q b m') : TW K tt δ m Q := fun σ H s M QQ k => h σ H s M QQ fun b m1 H1 q => k b m1 H1 (n b m1 q)
end DL

set_option Elab.async false
set_option linter.all false
set_option maxRecDepth 100000
set_option maxHeartbeats 1000000
set_option autoImplicit false
/-! Errors: raised, let through, caught. -/
namespace DL
open PySem PySem.Spec PyProof.Rows L2
/-- the cell of an error's dict -/
abbrev xc (x : D) : Cell := .xd [("value", x)]
/-- what leaves by an error: the slots, its class, its value, the cells -/
abbrev XS := List (Option D) → Addr → D → Mem → Prop
section
variable (K : PySem.W.Frag)
def MeetsX (R : XS) (F : Hp) (W : WX) : Prop := ∀ (δ : List (Option D)) (C : Addr) (x : D) (m : Mem) (dd : Addr) (σ : L2.St) (H : Hp), R δ C x m → Sub F (hide (m ++ [(dd, xc x)]) H) → Sl K (hide (m ++ [(dd, xc x)]) H) σ δ → MemOk K (m ++ [(dd, xc x)]) H → W (.ref C) (some dd) σ H
def SWX (t : WX → TS) (R : XS) (δ : List (Option D)) (m : Mem) (P : Ps) : Prop := ∀ (σ : L2.St) (H : Hp), Sl K (hide m H) σ δ → MemOk K m H → ∀ E : Ends, Meets K P (hide m H) E → ∀ W : WX, MeetsX K R (hide m H) W → t W E σ H
def EWX (t : WX → TE) (R : XS) (δ : List (Option D)) (m : Mem) (Q : D → Mem → Prop) : Prop := ∀ (σ : L2.St) (H : Hp), Sl K (hide m H) σ δ → MemOk K m H → ∀ QQ : VK,
  (∀ (d : D) (m' : Mem) (v : V) (H' : Hp), Q d m' → Sub (hide m H) (hide m' H') → MemOk K m' H' → Rd K (hide m' H') v d → QQ v H') → ∀ W : WX, MeetsX K R (hide m H) W → t W σ H QQ
end
/-- what a raising def promises -/
abbrev FX := List D → Mem → (D → Mem → Prop) → (Addr → D → Mem → Prop) → Prop
abbrev FXn (n : Nat) (F : FX) : FX := fun ds m Q R => ds.length = n ∧ F ds m Q R
abbrev FX.quiet (F : FX) : FS := fun ds m Q => F ds m Q fun _ _ _ => False
def spX (K : PySem.W.Frag) (Pf : FX) : Sp := fun vs H Q E => ∃ (ds : List D) (m : Mem) (QS : D → Mem → Prop) (R : Addr → D → Mem → Prop), RdL K (hide m H) vs ds ∧ MemOk K m H ∧ Pf ds m QS R ∧
  (∀ (d : D) (m' : Mem) (v : V) (H' : Hp), QS d m' → Sub (hide m H) (hide m' H') → MemOk K m' H' → Rd K (hide m' H') v d → Q v H') ∧
  ∀ (C : Addr) (x : D) (m' : Mem) (dd : Addr) (H' : Hp), R C x m' → Sub (hide m H) (hide (m' ++ [(dd, xc x)]) H') → MemOk K (m' ++ [(dd, xc x)]) H' → E (.ref C) (some dd) H'
section
variable {K : PySem.W.Frag} {δ : List (Option D)} {m : Mem} {Q : D → Mem → Prop} {P : Ps} {R R' : XS} {F F' : Hp} {W : WX} {t u : WX → TS} {te : WX → TE} {tt : TT}
theorem MeetsX.mono (h : MeetsX K R F W) (e : Sub F F') : MeetsX K R F' W := fun δ C x m dd σ H q s => h δ C x m dd σ H q (e.trans s)
theorem swx_of {t : TS} (h : SW K t δ m P) : SWX K (fun _ => t) R δ m P := fun σ H s M E k _ _ => h σ H s M E k
theorem swx_seq (h : SWX K t R δ m { P with nx := fun δ' m' => SWX K u R δ' m' P }) : SWX K (fun W => tSeq (t W) (u W)) R δ m P := fun σ H s M E k W kx =>
  h σ H s M { E with nx := u W E } ⟨fun δ' m' σ' H' q e s' M' => q σ' H' s' M' E (k.mono e) W (kx.mono e), k.rt, k.bk, k.ct⟩ W kx
theorem swx_if (h : TW K tt δ m fun b m1 => if b = true then SWX K t R δ m1 P else SWX K u R δ m1 P) : SWX K (fun W => tIfS tt (t W) (u W)) R δ m P := fun σ H s M E k W kx =>
  h σ H s M _ fun b m1 H1 q s1 M1 => by
    cases b with
    | true =>
      rw [if_pos rfl] at q
      exact q σ H1 (s.mono s1) M1 E (k.mono s1) W (kx.mono s1)
    | false =>
      rw [if_neg Bool.false_ne_true] at q
      exact q σ H1 (s.mono s1) M1 E (k.mono s1) W (kx.mono s1)
theorem swx_drop (h : EWX K te R δ m fun _ m1 => P.nx δ m1) : SWX K (fun W => tDrop (te W)) R δ m P := fun σ H s M E k W kx => h σ H s M _ (fun d m1 v1 H1 q1 s1 M1 r1 => k.nx δ m1 σ H1 q1 s1 (s.mono s1) M1) W kx
theorem swx_asg {i : Nat} (h : EWX K te R δ m fun d m1 => P.nx (δ.set i (some d)) m1) : SWX K (fun W => tAsg (te W) (gName i)) R δ m P := fun σ H s M E k W kx =>
  h σ H s M _ (fun d m1 v1 H1 q1 s1 M1 r1 => k.nx (δ.set i (some d)) m1 (σ.set i (some v1)) H1 q1 s1 ((s.mono s1).set i r1) M1) W kx
theorem swx_ret (h : EWX K te R δ m P.rt) : SWX K (fun W => tRet (te W)) R δ m P := fun σ H s M E k W kx => h σ H s M _ (fun d m1 v1 H1 q1 s1 M1 r1 => k.rt d m1 v1 H1 q1 s1 M1 r1) W kx
end
/-! ### defs that raise -/
section
variable {P : Program} {w : World} {K : PySem.W.Frag} {mg : Str → Option Value} {base : Heap} {k : Nat} {f : Addr} {ps : List Str} {Pf : FX}
def DefX (P : Program) (w : World) (K : PySem.W.Frag) (mg : Str → Option Value) (base : Heap) (k : Nat) (f : Addr) (ps : List Str) (Pf : FX) : Prop := ∃ fd, FnOk P w K mg base (CX P w) k f fd ps (spX K Pf) ∧ Binds K fd ps [] ∧ FdAt K f fd
theorem DefX.up {j : Nat} (h : DefX P w K mg base j f ps Pf) (l : j ≤ k) : DefX P w K mg base k f ps Pf := let ⟨fd, F, b⟩ := h; ⟨fd, F.mono l, b⟩
/-- where it raises nothing -/
theorem DefX.quiet (h : DefX P w K mg base k f ps Pf) : Def P w K mg base k f ps Pf.quiet := by
  obtain ⟨fd, F, b, e⟩ := h
  have up : ∀ {vs : List V} {H : Hp} {Q : VK} {E : XK}, spOf K Pf.quiet vs H Q E → spX K Pf vs H Q fun _ _ _ => False := fun {vs H Q E} ⟨ds, m, QS, r, M, p, q⟩ => ⟨ds, m, QS, _, r, M, p, q, fun _ _ _ _ _ z => z.elim⟩
  refine ⟨fd, ⟨fun vs H Q E q => F.len vs H Q _ (up q), fun A outer s H args us vs Q E hr he hb hv q => codeAny_mono (F.run A outer s H args us vs Q _ hr he hb hv (up q)) fun r s' c => ?_⟩, b, e⟩
  match r, c with
  | .error e, c => obtain ⟨_, _, _, _, _, _, _, _, _, _, _, _, z⟩ := c; exact z.elim
  | .ok (.ret u), c => exact c
  | .ok .next, c => exact c
  | .ok .brk, c => exact c
  | .ok .cont, c => exact c
theorem defOkX {x qual : Str} {st : Stmt} {N : List Str} (h : Has K x qual st f ps) (S : FnScope N ps (defScope st)) {t : WX → TS} (hlen : ∀ ds m Q R, Pf ds m Q R → ds.length = ps.length)
    (hd : ∀ (W : WX) (cdv : Value) (A : Around) (outer : List Env) (s : Shared) (H : Hp) (E : XK), Room k (A.deeper (envOfC qual (defScope st) s.heap.objs.size f cdv)) → Takes (cxOf (CX P w) P w K mg base N qual (defScope st) f cdv A outer s H E) W →
      PassesOwn (model P w) (cxOf (CX P w) P w K mg base N qual (defScope st) f cdv A outer s H E).A (cxOf (CX P w) P w K mg base N qual (defScope st) f cdv A outer s H E).env (cxOf (CX P w) P w K mg base N qual (defScope st) f cdv A outer s H E).xe →
      ∃ t', PSs (cxOf (CX P w) P w K mg base N qual (defScope st) f cdv A outer s H E) (defBody st) t' ∧ t' = t W)
    (hs : ∀ ds m (Q : D → Mem → Prop) (R : Addr → D → Mem → Prop), Pf ds m Q R → SWX K t (fun _ => R) (startD N.length ds) m { nx := fun _ m' => Q .non m', rt := Q }) : DefX P w K mg base (k + 1) f ps Pf := by
  obtain ⟨fd, F, b⟩ := h
  have F0 := F
  obtain ⟨oc, od, dV, kV, dc, pm, an, cd, ct, sl, rfl, hcd, lk⟩ := F.is
  refine ⟨_, fn_of lk hcd S (fun vs H Q E h => ?_) (fun A outer s H vs Q E hr h => ?_), b, Fnc.fdAt F0⟩
  · obtain ⟨ds, m, QS, R, r, _, p, _⟩ := h
    rw [r.length]
    exact hlen _ _ _ _ p
  · obtain ⟨t', der, et⟩ := hd (fun cls d _ H => E cls d H) _ A outer s H E hr (takes_of rfl rfl rfl rfl) (passes_of rfl)
    refine ⟨t', der, ?_⟩
    rw [et]
    obtain ⟨ds, m, QS, R, r, M, p, k, kx⟩ := h
    exact hs ds m QS R p _ _ (sl_start r) M _ ⟨fun δ' m' σ' H' q e s' M' => k .non m' .non H' q e M' .non, fun d m' v H' q e M' r' => k d m' v H' q e M' r', fun _ _ _ _ q => q.elim, fun _ _ _ _ q => q.elim⟩ _
      fun δ C x m' dd σ H' q e _ M' => kx C x m' dd H' q e M'
end
end DL

set_option Elab.async false
set_option linter.all false
set_option maxRecDepth 100000
set_option maxHeartbeats 1000000
set_option autoImplicit false
/-! Errors: calls that raise, raise itself, try. -/
namespace DL
open PySem PySem.Spec PyProof.Rows L2
section
variable {X : Cx} {CX : CXT} {k n : Nat} {f C : Addr} {fd : FuncData} {ps ks : List Str} {sp : Sp} {E : XK} {g : List Value → List Value → List Value} {gV : List V → List V → List V}
end
section
variable {X : Cx} {k n : Nat} {f C : Addr} {fd : FuncData} {ps ks : List Str} {sp : Sp} {W : WX} {g : List Value → List Value → List Value} {gV : List V → List V → List V}
end
def tFunX (K : PySem.W.Frag) (n m : Nat) (idx : List Nat) (dd : List D) (sp : Sp) (t tk : TA) (W : WX) : TE := fun σ => tFunS K n m idx dd sp (WE W σ) t tk σ
def tMethX (K : PySem.W.Frag) (C : Addr) (nm : Str) (n m : Nat) (idx : List Nat) (dd : List D) (sp : Sp) (ta : TE) (t tk : TA) (W : WX) : TE := fun σ => tMethS K C nm n m idx dd sp (WE W σ) ta t tk σ
def tMakeX (K : PySem.W.Frag) (C : Addr) (n m : Nat) (idx : List Nat) (dd : List D) (sp : Sp) (t tk : TA) (W : WX) : TE := fun σ => tMakeS K C n m idx dd sp (WE W σ) t tk σ
section
variable {X : Cx} {k n : Nat} {f C : Addr} {ps ks : List Str} {Pf : FX} {W : WX} {x nm : Str} {p pos apos : Pos} {e o : Expr} {es : List Expr} {kws : List Keyword} {ta : TE} {t tk : TA} {idx : List Nat} {dd : List D} (K : PySem.W.Frag) (hK : X.K = K)
include hK
end
/-! ### o[i] that raises -/
def tSubX (C : Addr) (sp : Sp) (ta tb : TE) (W : WX) : TE := fun σ H Q => ta σ H fun x H1 => tb σ H1 fun y H2 => ∃ a dx fs, x = .ref a ∧ H2 a = some (.ins C dx fs) ∧ sp [.ref a, y] H2 Q (WE W σ)
section
variable {K : PySem.W.Frag} {δ : List (Option D)} {m : Mem} {Q : D → Mem → Prop} {R : XS} {ta te tb : TE} {t tk : TA} {Pf : FX} {n l : Nat} {idx : List Nat} {dd : List D} {C : Addr} {nm : Str}
/-- what the caller takes of the callee's errors -/
theorem wx_of {F : Hp} {W : WX} {σ : L2.St} (kx : MeetsX K R F W) {m2 : Mem} {H2 : Hp} (s2 : Sub F (hide m2 H2)) (S : Sl K (hide m2 H2) σ δ) : ∀ (C : Addr) (x : D) (m' : Mem) (dd : Addr) (H' : Hp), R δ C x m' → Sub (hide m2 H2) (hide (m' ++ [(dd, xc x)]) H') → MemOk K (m' ++ [(dd, xc x)]) H' → WE W σ (.ref C) (some dd) H' :=
  fun C x m' dd H' q e M' => kx δ C x m' dd σ H' q (s2.trans e) (S.mono e) M'
theorem ewx_fun (h : AW K t δ m fun ds m2 => AW K tk δ m2 fun es m3 => ds.length = n ∧ es.length = l ∧ Pf (pickN idx (ds ++ (es ++ dd))) m3 Q (R δ)) : EWX K (tFunX K n l idx dd (spX K Pf) t tk) R δ m Q := fun σ H s M QQ k W kx =>
  h σ H s M _ fun ds m2 vs H2 q2 s2 M2 r2 => q2 σ H2 (s.mono s2) M2 _ fun es m3 zs H3 ⟨l1, l2, q3⟩ s3 M3 r3 =>
    ⟨by rw [r2.length, l1], by rw [r3.length, l2], fun dvs hd => ⟨_, m3, Q, R δ, pick_rd ((r2.mono s3).append (r3.append (hd _))) idx, M3, q3, fun d m' v H' q s4 M' r => k d m' v H' q (s2.trans (s3.trans s4)) M' r, wx_of kx (s2.trans s3) (s.mono (s2.trans s3))⟩⟩
theorem ewx_meth (h : EW K ta δ m fun x m1 => ∃ (fs : List (Str × D)), (x = .ins C fs ∨ ∃ p, x = .adr p ∧ MAt m1 p (.ins C fs)) ∧ fs.lookup nm = none ∧ AW K t δ m1 fun ds m2 => AW K tk δ m2 fun es m3 => ds.length = n ∧ es.length = l ∧ Pf (pickN idx (x :: (ds ++ (es ++ dd)))) m3 Q (R δ)) : EWX K (tMethX K C nm n l idx dd (spX K Pf) ta t tk) R δ m Q := fun σ H s M QQ k W kx =>
  h σ H s M _ fun x m1 v H1 ⟨fs, ex, lk, q⟩ s1 M1 r1 => by
    have at_ : ∃ a dx xs, v = .ref a ∧ H1 a = some (.ins C dx xs) ∧ xs.lookup nm = none := by
      rcases ex with ex | ⟨p, ex, hm⟩
      · have r1' := r1
        rw [ex] at r1'
        obtain ⟨a, dx, xs, ev, e, nms, r⟩ := ins_at r1'
        exact ⟨a, dx, xs, ev, e, (lookup_rel (f := nm) nms r).2 lk⟩
      · have r1' := r1
        rw [ex] at r1'
        cases r1'
        obtain ⟨i, hi⟩ := hm
        obtain ⟨dx, xs, e, nms, r⟩ := M1.get hi
        exact ⟨p, dx, xs, rfl, e, (lookup_rel (f := nm) nms r).2 lk⟩
    obtain ⟨a, dx, xs, ev, e, nl⟩ := at_
    subst ev
    refine ⟨a, dx, xs, rfl, e, nl, q σ H1 (s.mono s1) M1 _ fun ds m2 vs H2 q2 s2 M2 r2 => q2 σ H2 (s.mono (s1.trans s2)) M2 _ fun es m3 zs H3 ⟨l1, l2, q3⟩ s3 M3 r3 => ?_⟩
    exact ⟨by rw [r2.length, l1], by rw [r3.length, l2], fun dvs hd => ⟨_, m3, Q, R δ, pick_rd (.cons (r1.mono (s2.trans s3)) ((r2.mono s3).append (r3.append (hd _)))) idx, M3, q3, fun d m' v H' q s4 M' r => k d m' v H' q (s1.trans (s2.trans (s3.trans s4))) M' r, wx_of kx (s1.trans (s2.trans s3)) (s.mono (s1.trans (s2.trans s3)))⟩⟩
theorem ewx_make (h : AW K t δ m fun ds m2 => AW K tk δ m2 fun es m3 => ds.length = n ∧ es.length = l ∧ ∀ p, Pf (pickN idx (.adr p :: (ds ++ (es ++ dd)))) (m3 ++ [(p, .ins C [])]) (fun d m4 => d = .non ∧ ∃ (m5 : Mem) (fs : List (Str × D)), m4 = m5 ++ [(p, .ins C fs)] ∧ Q (.ins C fs) m5) (R δ)) : EWX K (tMakeX K C n l idx dd (spX K Pf) t tk) R δ m Q := fun σ H s M QQ k W kx =>
  h σ H s M _ fun ds m2 vs H0 q2 s2 M2 r2 => q2 σ H0 (s.mono s2) M2 _ fun es m1 zs H1 ⟨l1, l2, q1⟩ s3 M1 r3 => by
    refine ⟨by rw [r2.length, l1], by rw [r3.length, l2], fun dvs hd => ?_⟩
    intro x dx hx hdx hne
    have hx2 : upd H1 dx (.own x) x = none := by rw [upd_ne (Ne.symm hne)]; exact hx
    obtain ⟨M2', s2'⟩ := M1.new (o := .own x) hdx
    have e : hide (m1 ++ [(x, Cell.ins C [])]) (upd (upd H1 dx (.own x)) x (.ins C dx [])) = hide m1 (upd H1 dx (.own x)) := hide_cell hx2
    have M3 : MemOk K (m1 ++ [(x, Cell.ins C [])]) (upd (upd H1 dx (.own x)) x (.ins C dx [])) := M2'.cell (c := .ins C []) hx2 ⟨dx, [], upd_same, rfl, .nil⟩
    have s5 : DL.Sub (hide m1 H1) (hide (m1 ++ [(x, Cell.ins C [])]) (upd (upd H1 dx (.own x)) x (.ins C dx []))) := by rw [e]; exact s2'
    refine ⟨_, m1 ++ [(x, .ins C [])], _, R δ, pick_rd (.cons (.adr x) (((r2.mono s3).mono s5).append ((r3.mono s5).append (hd _)))) idx, M3, q1 x, fun d m' v H' ⟨ed, m4, fs, em, q⟩ s4 M4 r4 => ?_, wx_of kx (s2.trans (s3.trans s5)) (s.mono (s2.trans (s3.trans s5)))⟩
    subst ed
    subst em
    cases r4
    obtain ⟨M5, sb, hp⟩ := M4.drop
    exact ⟨rfl, k _ m4 _ H' q (s2.trans (s3.trans (s5.trans (s4.trans sb)))) M5 (still_of (d := .ins C fs) (M4.at_ x (.ins C fs) (by simp)) rfl sb hp)⟩
theorem ewx_sub (h : EW K ta δ m fun x m1 => EW K tb δ m1 fun y m2 => ∃ fs, x = .ins C fs ∧ Pf [x, y] m2 Q (R δ)) : EWX K (tSubX C (spX K Pf) ta tb) R δ m Q := fun σ H s M QQ k W kx =>
  h σ H s M _ fun x m1 v1 H1 q1 s1 M1 r1 => q1 σ H1 (s.mono s1) M1 _ fun y m2 v2 H2 ⟨fs, ex, q⟩ s2 M2 r2 => by
    have r1' := r1.mono s2
    have r3 := r1'
    rw [ex] at r3
    obtain ⟨p, dx, xs, ev, e, nm, r⟩ := ins_at r3
    subst ev
    exact ⟨p, dx, xs, rfl, e, [x, y], m2, Q, R δ, .cons r1' (.cons r2 .nil), M2, q, fun d m' v H' q s4 M' r => k d m' v H' q ((s1.trans s2).trans s4) M' r, wx_of kx (s1.trans s2) (s.mono (s1.trans s2))⟩
end
/-! ### errors of the program: __init__(self, value) -/
def spI (K : PySem.W.Frag) : Sp := fun vs H Q _ => ∃ (a C : Addr) (y : V), vs = [.ref a, y] ∧ OexC K C ∧ PySem.W.findIn K (.ref C) "value" = some none ∧ H a = some (exo a C none) ∧
  ∀ dx, H dx = none → dx ≠ a → Q .non (upd (upd H dx (exd dx [("value", y)])) a (exo a C (some dx)))
def InitX (P : Program) (w : World) (K : PySem.W.Frag) (mg : Str → Option Value) (base : Heap) (k : Nat) (f : Addr) : Prop := ∃ fd, FnOk P w K mg base (CX P w) k f fd ["self", "value"] (spI K) ∧ Binds K fd ["self", "value"] []
theorem initX {P : Program} {w : World} {K : PySem.W.Frag} {mg : Str → Option Value} {base : Heap} {k : Nat} {f : Addr} {x qual : Str} {st : Stmt} (h : Has K x qual st f ["self", "value"]) (S : FnScope ["self", "value"] ["self", "value"] (defScope st))
    (hd : ∀ (cdv : Value) (A : Around) (outer : List Env) (s : Shared) (H : Hp) (E : XK), PSs (cxOf (CX P w) P w K mg base ["self", "value"] qual (defScope st) f cdv A outer s H E) (defBody st) (tOst K "value" (tVar 0) (tVar 1))) : InitX P w K mg base (k + 1) f := by
  obtain ⟨fd, F, b⟩ := h
  obtain ⟨oc, od, dV, kV, dc, pm, an, cd, ct, sl, rfl, hcd, lk⟩ := F.is
  refine ⟨_, fn_of lk hcd S (fun vs H Q E ⟨a, C, y, e, _⟩ => by rw [e]; rfl) (fun A outer s H vs Q E hr h => ⟨_, hd _ A outer s H E, ?_⟩), b⟩
  obtain ⟨a, C, y, rfl, T, no, ea, q⟩ := h
  refine ⟨y, rfl, V.ref a, rfl, a, C, rfl, T, no, .inl ⟨ea, fun dx hx hne => q dx hx hne⟩⟩
/-- what a class of errors must be -/
structure ErrC (K : PySem.W.Frag) (C fI : Addr) : Prop where
  o : OexC K C
  i : PySem.W.findIn K (.ref C) "__init__" = some (some (.ref fI))
  v : PySem.W.findIn K (.ref C) "value" = some none
  t : PySem.W.typeIn K (.ref fI) = some (.type "function")
/-- raise C(e) -/
def tRs (K : PySem.W.Frag) (C : Addr) (ta : TA) (W : WX) : TS := fun _ σ H => tMkO C (spI K) [] ta σ H fun cls d H' => W cls d σ H'
theorem kx_raise {X : Cx} {k : Nat} {C fI : Addr} {x : Str} {e : Expr} {ta : TA} {W : WX} {p pos pos2 : Pos} (K : PySem.W.Frag) (hK : X.K = K) (hc : X.calm = true) (tk : Takes X W) (c : ErrC K C fI) (F : InitX X.prog X.w K X.mg X.base k fI) (hr : Room (k + 1) X.A) (hg : Gl X x) (hm : X.mg x = some (.ref C)) (ha : PA X [e] ta)
    (hdb : (x == ("__debug__" : Str)) = false := by decide) (he : starEach [e] X.env = [(false, eval e X.env)] := by rfl) (hpl : (backTo pos (starEach ([] : List Expr) X.env)).any (·.1) = false := by rfl) :
    PS X (.Raise (some (.Call (.Name x p) [e] [] pos)) none pos2) (tRs K C ta W) := by
  subst hK
  obtain ⟨fd, F, b⟩ := F
  exact ps_raise hc tk (pmk_oex (p := p) (dvs := []) (ds := []) c.o c.i c.t F hr b .nil (fun _ _ _ _ _ _ _ z => by obtain ⟨_, _, _, _, _, _, _, _, _, _, _, _, y⟩ := z; exact y.elim) hg hm ha hdb he hpl)
section
variable {K : PySem.W.Frag} {δ : List (Option D)} {m : Mem} {P : Ps} {R : XS} {ta : TA}
theorem swx_raise {C fI : Addr} (c : ErrC K C fI) (h : AW K ta δ m fun xs m1 => ∃ x, xs = [x] ∧ R δ C x m1) : SWX K (tRs K C ta) R δ m P := fun σ H s M E k W kx =>
  h σ H s M _ fun xs m1 vs H1 ⟨x, ex, q⟩ s1 M1 r1 => by
    subst ex
    cases r1 with
    | @cons v vs' _ _ r1 r2 =>
      cases r2
      refine ⟨by simp, fun a ha => ⟨a, C, v, rfl, c.o, c.v, upd_same, fun dx hx hne => ⟨rfl, dx, [("value", v)], upd_same, ?_, ?_, ?_⟩⟩⟩
      · rw [upd_ne hne, upd_same]
      · rwa [upd_ne hne] at hx
      · have hx1 : H1 dx = none := by rwa [upd_ne hne] at hx
        have eH : upd (del (upd (upd (upd H1 a (exo a C none)) dx (exd dx [("value", v)])) a (exo a C (some dx))) a) dx (.xd [("value", v)]) = upd H1 dx (.xd [("value", v)]) := by
          funext b
          by_cases hb : b = dx
          · rw [hb, upd_same, upd_same]
          · rw [upd_ne hb, upd_ne hb]
            by_cases ha2 : b = a
            · rw [ha2, del_same, ha]
            · rw [del_ne ha2, upd_ne ha2, upd_ne hb, upd_ne ha2]
        rw [eH]
        have e : hide (m1 ++ [(dx, xc x)]) (upd H1 dx (.xd [("value", v)])) = hide m1 H1 := hide_cell hx1
        exact kx δ C x m1 dx σ _ q (by rw [e]; exact s1) (by rw [e]; exact s.mono s1) (M1.cell (c := xc x) hx1 ⟨_, upd_same, rfl, .cons r1 .nil⟩)
end
section
variable {K : PySem.W.Frag} {δ : List (Option D)} {m : Mem} {P : Ps} {R : XS} {tb : WX → TS} {ts : Addr → Value → Option Addr → TS} {i : Nat} {c : Value}
end
section
variable {K : PySem.W.Frag} {δ : List (Option D)} {m : Mem} {Q : D → Mem → Prop} {te : TE}
end
end DL

set_option Elab.async false
set_option linter.all false
set_option maxRecDepth 100000
set_option maxHeartbeats 4000000
set_option autoImplicit false
/-! isinstance of a caught error that has its dict. -/
namespace PySem.W
open PySem PySem.Spec PySem.Calls PyProof.Rows
section
variable {prog : Program} {w : World} {A : Around} {E : Value → Shared → Prop} {K : Frag} {x D : Addr} {ox od : Obj}
end
end PySem.W
namespace DL
open PySem PySem.Spec PyProof.Rows L2
section
variable {K : PySem.W.Frag} {δ : List (Option D)} {m : Mem} {Q : D → Mem → Prop}
end
end DL
namespace DL
open PySem PySem.Spec PyProof.Rows L2
section
variable {K : PySem.W.Frag} {D C fI fJ : Addr} {b : Bool}
theorem ErrC.self (c : ErrC K C fI) (h : PySem.W.subIn K (.ref C) (.ref C) = some b) : b = true := by
  obtain ⟨nm, q, N, bs, bm, sn, sub, ab, col, dd, k0, k1, k2, k3, k5, hC, _⟩ := c.o.cls
  have e : PySem.W.clsIn K C = some { name := nm, bases := bs, mro := .ref C :: bm, ns := N, qualname := q, hasDict := true, slotNames := sn, subclasses := sub, abstract := ab, collection := col, hasDel := false } := by unfold PySem.W.clsIn; rw [hC] <;> rfl
  have h2 : PySem.W.mroIn K C (.ref C) = some b := h
  unfold PySem.W.mroIn at h2
  rw [e] at h2
  simpa using h2.symm
theorem ErrC.kit (c : ErrC K D fI) (d : ErrC K C fJ) (x : ExcC K C) (h : PySem.W.subIn K (.ref D) (.ref C) = some b) : PySem.W.kitOne K (.ref D) (.ref C) = some b := by
  unfold PySem.W.kitOne
  by_cases e : D = C
  · subst e
    rw [c.self h]
    simp
  · rw [if_neg (by simpa using e)]
    obtain ⟨cd, hc, _⟩ := PySem.W.any_some x.hd
    show (if ((PySem.W.clsIn K C).isSome && PySem.W.typeIn K (.ref C) == some (.type "type")) = true then PySem.W.subIn K (.ref D) (.ref C) else none) = some b
    rw [hc, d.o.tyC, if_pos (by rfl)]
    exact h
end
end DL

set_option Elab.async false
set_option linter.all false
set_option maxRecDepth 100000
set_option maxHeartbeats 1000000
set_option autoImplicit false
/-! repr of None; texts told backwards; a sum of lists as a cell; cells told in another sequence. -/
namespace DL
open PySem PySem.Spec PyProof.Rows L2
def rReprP : List V → Hp → VK → Prop := fun xs H Q => (xs = [.non] ∧ Q (.str "None") H) ∨ (∃ b : Bool, xs = [.bl b] ∧ Q (.str (if b then "True" else "False")) H) ∨ ∃ i : Int, xs = [.int i] ∧ i.natAbs.log2 < 1920 ∧ Q (.str (toString i)) H
def rReprU (K : PySem.W.Frag) : List V → Hp → VK → Prop := fun xs H Q => rRepr K xs H Q ∨ rReprP xs H Q
theorem kx_reprU {X : Cx} (K : PySem.W.Frag) (hK : X.K = K) (hg : X.A.guards = some []) (hu : X.A.units + 66 < cLine) : CallR X (.builtin "repr") (rReprU K) := by
  intro pins s σ H xs us Q I rv h
  rcases h with h | ⟨rfl, q⟩ | ⟨b, rfl, q⟩ | ⟨i, rfl, hi, q⟩
  · exact kx_repr K hK hg hu pins s σ H xs us Q I rv h
  · cases rv with
    | cons r0 r1 =>
      cases r1
      cases r0
      exact PySem.P.repr_of_none ⟨.str "None", H, I.tok _, ⟨_, rfl⟩, q⟩
  · cases rv with
    | cons r0 r1 =>
      cases r1
      cases r0
      exact PySem.P.repr_of_bool ⟨.str _, H, I.tok _, ⟨_, rfl⟩, q⟩
  · cases rv with
    | cons r0 r1 =>
      cases r1
      obtain ⟨t, rfl⟩ := r0
      exact PySem.P.repr_of_int hi ⟨.str _, H, I.tok _, ⟨_, rfl⟩, q⟩
section
variable {K : PySem.W.Frag} {δ : List (Option D)} {m m' : Mem} {Q : D → Mem → Prop} {te : TE} {t : TS} {P : Ps}
theorem cw_showU {x : D} {d : PyData} {n B : Nat} (h : Res K m x d) (hx : (∃ xs, x = .lst xs) ∨ (∃ xs, x = .tup xs) ∨ ∃ p, x = .adr p) (s : Shw n B d) (hn : n ≤ 64) (hB : B ≤ sizeLine) (q : Q (.str d.shown) m) : CW K (rReprU K) [x] m Q := cw_or1 (cw_show h hx s hn hB q)
end
end DL

set_option Elab.async false
set_option linter.all false
set_option maxRecDepth 100000
set_option maxHeartbeats 1000000
set_option autoImplicit false
/-! From the data promise of a law to its row, where repr is asked of no guard. -/
namespace DL
open PySem PySem.Spec PyProof.Rows L2
section
variable {K : PySem.W.Frag} {x qual : Str} {st : Stmt} {f T : Addr} {ps : List Str} {oc kV dc pm cd ct oT : Value} {od an dT : Option Addr} {sl sT : Array (Option Value)} {its : Array Value} {nT : Nat}
theorem has_mk (l : K.lookup f = some ⟨oc, od, .func (PySem.W.fnOf x qual (defArgs st) (defBody st) (defScope st) .none kV dc pm an cd ct), sl⟩) (c : PySem.W.codeIn K cd qual = true)
    (b : ∀ (kV dc pm : Value) (an : Option Addr) (cd ct : Value) (us : List Value), us.length = ps.length → bindArgs (PySem.W.fnOf x qual (defArgs st) (defBody st) (defScope st) .none kV dc pm an cd ct) ⟨us, []⟩ = pure (ps.zip us)) : Has K x qual st f ps :=
  ⟨_, ⟨oc, od, .none, kV, dc, pm, an, cd, ct, sl, rfl, c, l⟩, .all (b kV dc pm an cd ct)⟩
theorem law_mk {y : Str} (l : K.lookup f = some ⟨oc, od, .func (PySem.W.fnOf x qual (defArgs st) (defBody st) (defScope st) .none kV dc pm an cd ct), sl⟩)
    (b : ∀ v : Value, bindArgs (PySem.W.fnOf x qual (defArgs st) (defBody st) (defScope st) .none kV dc pm an cd ct) ⟨[v], []⟩ = pure [(y, v)]) : ∀ fd, FdAt K f fd → ∀ (s : Shared) (v : Value), BindsTo s fd ⟨[v], []⟩ [(y, v)] := fun fd e s v => by
  rw [← fdAt_inj ⟨oc, od, sl, l⟩ e]
  exact .of_eq (b v)
end
def startHp (K : PySem.W.Frag) (a : Addr) (vs : List Value) (ns : List Int) : Hp := fun b => match K.lookup a with
  | some _ => none
  | none => if b = a then some (.frz { cls := .type "list", data := .seq vs.toArray } (.lst (ns.map V.int))) else none
section
variable {K : PySem.W.Frag} {a : Addr} {vs : List Value} {ns : List Int}
theorem startHp_some {b : Addr} {u : HO} (h : startHp K a vs ns b = some u) : K.lookup a = none ∧ b = a ∧ u = .frz { cls := .type "list", data := .seq vs.toArray } (.lst (ns.map V.int)) := by
  unfold startHp at h
  cases c : K.lookup a with
  | some o => rw [c] at h; cases h
  | none =>
    rw [c] at h
    by_cases e : b = a
    · rw [if_pos e] at h
      cases h
      exact ⟨rfl, e, rfl⟩
    · rw [if_neg e] at h
      cases h
theorem startHp_sq {h : Heap} (kin : K.In h) (obj : h.get? a = some { cls := .type "list", data := .seq vs.toArray }) (are : IntsAre vs ns) (few : ns.length ≤ sizeLine) : SqL K (startHp K a vs ns) a (ns.map V.int) := by
  have n2 := are.length
  have rel := vals_ints are
  cases c : K.lookup a with
  | some o =>
    have e := kin a o c
    rw [obj] at e
    cases e
    refine Or.inr ⟨_, vs.toArray, _, c, rfl, rfl, rfl, ?_, ?_⟩
    · rw [List.size_toArray, n2]; exact few
    · simpa using rel
  | none =>
    refine Or.inl (Or.inr ⟨{ cls := .type "list", data := .seq vs.toArray }, ?_⟩)
    unfold startHp
    rw [c]
    exact if_pos rfl
theorem code_of {P : Program} {w : World} {mg mb : Str → Option Value} {k : Nat} {fa : Addr} {fd : FuncData} {x : Str} {Pf : FS} {s : Shared}
    (kin : K.In s.heap) (top : s.heap.Ns mainGlobals mg) (blt : s.heap.Ns builtinsNs mb) (boot : ∀ x : Str, x ≠ "__name__" → mb x = bootBuiltins x) (free : s.heap.NoLimit) (calm : s.gens = #[])
    (obj : s.heap.get? a = some { cls := .type "list", data := .seq vs.toArray }) (are : IntsAre vs ns) (few : ns.length ≤ sizeLine) (room : Room k callerA)
    (F : ∀ base : Heap, K.In base → base.Ns mainGlobals mg → FnG P w K mg base k fa fd [x] (spOf K Pf)) (bind : ∀ (s : Shared) (u : Value), BindsTo s fd ⟨[u], []⟩ [(x, u)])
    (keeps : Pf [.scr ns] [] fun d _ => d = .bl true) :
    codeAny (model P w) callerA (.call (.ref fa) ⟨[.ref a], []⟩) (fun r s' => r = .ok (.ret (.bool true)) ∧ OldK s.heap s'.heap ∧ s'.os = s.os ∧ AllBare s'.gens) s := by
  have sq := startHp_sq kin obj are few
  have rel := vals_ints are
  generalize hG : startHp K a vs ns = G at sq
  have tracked : ∀ {b : Addr} {u : HO}, G b = some u → K.lookup a = none ∧ b = a ∧ u = .frz { cls := .type "list", data := .seq vs.toArray } (.lst (ns.map V.int)) := fun {b u} q => startHp_some (hG ▸ q)
  have hok : HOk P w G s.heap := fun b u q => by
    obtain ⟨_, rfl, rfl⟩ := tracked q
    refine ⟨obj, ?_, vs, _, rel, obj⟩
    rw [List.length_map]
    exact few
  have still : ∀ {b : Addr} {o : Obj} {es : Array DictEntry} {ep : Nat}, s.heap.get? b = some o → o.data = .dict es ep → G b = none := fun {b o es ep} e d => by
    cases c : G b with
    | none => rfl
    | some u =>
      obtain ⟨_, rfl, _⟩ := tracked c
      rw [obj] at e
      cases e
      exact absurd d (fun z => by cases z)
  have names : ∀ {b : Addr} {mm : Str → Option Value}, s.heap.Ns b mm → (hidT s.heap G).Ns b mm := fun {b mm} h => by
    obtain ⟨o, es, ep, e, d, r⟩ := h
    exact ⟨o, es, ep, hidT_get e (still e d), d, r⟩
  have kin2 : K.In (hidT s.heap G) := fun b o e => by
    refine hidT_get (kin b o e) ?_
    cases c : G b with
    | none => rfl
    | some u =>
      obtain ⟨n, rfl, _⟩ := tracked c
      rw [n] at e
      cases e
  obtain ⟨mc, l1, l2⟩ := free
  have modl : Mod K mg (hidT s.heap G) := ⟨kin2, names top, ⟨mb, names blt, boot⟩, mc, names l1, l2⟩
  have env : Env0 P w K mg (hidT s.heap G) callerA [] s G := ⟨rfl, modl, fun b o e => of_hidT e, Nat.le_of_eq (hidT_size _ _), trivial, fun b hb => (List.not_mem_nil hb).elim, hok, .of_eq calm⟩
  have M0 : MemOk K ([] : Mem) G := ⟨List.nodup_nil, fun p c hc => (List.not_mem_nil hc).elim⟩
  have e0 : hide ([] : Mem) G = G := by
    funext b
    exact hide_out (by simp)
  have wish : spOf K Pf [.ref a] G (fun v _ => v = .bl true) E0 := by
    refine ⟨[.scr ns], [], fun d _ => d = .bl true, ?_, M0, keeps, fun d m' v H' q _ _ r => ?_⟩
    · rw [e0]
      exact .cons (.scr sq) .nil
    · subst q
      cases r
      rfl
  have run := (F _ kin2 (names top)).go callerA [] s G ⟨[.ref a], []⟩ [.ref a] [.ref a] (fun v _ => v = .bl true) rfl room env (bind s (.ref a)) (.cons rfl .nil) wish
  refine codeAny_mono run fun r s' h => ?_
  match r, h with
  | .error e, h => exact False.elim h
  | .ok .next, h => exact False.elim h
  | .ok .brk, h => exact False.elim h
  | .ok .cont, h => exact False.elim h
  | .ok (.ret u), ⟨v, H', os, bare, un, hok', ru, qv⟩ =>
    have qv' : v = .bl true := qv
    subst qv'
    have ru' : u = Value.bool true := ru
    subst ru'
    refine ⟨rfl, OldK.of_keep fun b o e => ?_, os, bare⟩
    cases c : G b with
    | none => exact un.keep b o e c (fun z => (List.not_mem_nil (show b ∈ ([] : List Addr) from z)).elim) (List.not_mem_nil)
    | some u =>
      obtain ⟨_, rfl, rfl⟩ := tracked c
      have z := un.frzs b _ _ c
      have e2 := (hok' b _ z).1
      rw [obj] at e
      cases e
      exact e2
end
theorem walk_at_law {l : PySem.W.OpenLaw} {n k : Nat} {q : Program} {loose : List Str} {XP : (Str → Option Value) → Heap → Prop} {YP : World → Heap → Prop} {d : DefRec} {K : Params → PySem.W.Frag} {Pf : FS} {x : Str}
    (most : l.most = some n) (small : n ≤ sizeLine) (nodef : d.params.defaults = []) (room : Room k callerA) (written : ∀ (w : World) (h : Heap), YP w h → (K w.params).In h)
    (F : ∀ (w : World) (mg : Str → Option Value) (fa : Addr) (h : Heap), (K w.params).In h → h.Ns mainGlobals mg → mg d.name = some (.ref fa) →
      ∃ fd : FuncData, (∀ (s : Shared) (u : Value), BindsTo s fd ⟨[u], []⟩ [(x, u)]) ∧ ∀ base : Heap, (K w.params).In base → base.Ns mainGlobals mg → FnG l.prog w (K w.params) mg base k fa fd [x] (spOf (K w.params) Pf))
    (keeps : ∀ ns : List Int, ns.length ≤ n → (∀ z ∈ ns, Builtin.Int.intBits z ≤ 1048576) → Pf [.scr ns] [] fun d _ => d = .bl true) : PySem.W.WalkO q loose XP YP l.row.toRowW d [] (fun f vs => PySem.call f vs) := by
  apply Att.attach_callB most nodef
  intro w s0 s mg mb fa o pm cd doc a vs ns ground y _ _ _ named obj are few bits calm
  obtain ⟨fd, bind, promise⟩ := F w mg fa s.heap (written w _ y) ground.T.g named
  exact code_of (written w _ y) ground.T.g ground.T.b ground.T.builtins ground.T.nolimit calm obj are (Nat.le_trans few small) room promise bind (keeps ns few bits)
end DL

set_option Elab.async false
set_option linter.all false
set_option maxRecDepth 100000
set_option maxHeartbeats 1000000
set_option autoImplicit false
/-! sorted(xs, key = lambda x: ..): xs a list of ints, the key an int that is told without a trace. -/
namespace DL
open PySem PySem.Spec PyProof.Rows L2 LamX SrtO

/-! ### the lambda: one parameter, captured names -/
structure LamP (sc scope : Scope) (N : List Str) (j : Nat) (x : Str) : Prop where
  kind : scope.kind = .function
  co : scope.isCoroutine = false
  gen : scope.isGenerator = false
  nm : N[j]? = some x
  lo : scope.names.lookup x = some .local
  own : ∀ y ∈ scope.names, y.2 ≠ .cell ∧ (y.2 = .local → y.1 = x)
  free : ∀ y ∈ scope.names, y.2 = .free → sc.names.lookup y.1 = some .cell ∨ sc.names.lookup y.1 = some .free
  nd : N.Nodup
section
variable {X : Cx} {pins : List (Addr × Obj)} {σ : L2.St} {H : Hp} {s : Shared} {scope : Scope} {j : Nat} {x : Str}
theorem LamP.has (L : LamP X.env.scope scope X.N j x) (ok : X.Ok) : ∀ y ∈ scope.names, y.2 = .free → ∃ c, X.env.cells.lookup y.1 = some c := fun y hy e => by
  rcases L.free y hy e with k | k
  · exact ok.has _ (.inl k)
  · exact ok.has _ (.inr k)
end

/-- another order that agrees on the items -/
theorem Stb.on {α : Type} {lt lt' : α → α → Bool} (O' : Swo lt') {l m : List α} (e : ∀ a ∈ m, ∀ b ∈ m, lt a b = lt' a b) (h : Stb lt l m) : Stb lt' l m := by
  refine ⟨h.perm, fun x => ?_⟩
  have hm : ∀ a, a ∈ l ↔ a ∈ m := fun a => h.perm.mem_iff
  by_cases ex : ∃ u, u ∈ m ∧ eqv lt' x u = true
  · obtain ⟨u, hu, he⟩ := ex
    have e1 : eqv lt' x = eqv lt' u := funext fun v => eqv_trans O' he
    have e2 : ∀ k : List α, (∀ a ∈ k, a ∈ m) → k.filter (eqv lt' u) = k.filter (eqv lt u) := fun k hk => List.filter_congr fun a ha => by
      unfold eqv
      rw [e u hu a (hk a ha), e a (hk a ha) u hu]
    rw [e1, e2 l (fun a ha => (hm a).mp ha), e2 m (fun a ha => ha), h.cls u]
  · have no : ∀ k : List α, (∀ a ∈ k, a ∈ m) → k.filter (eqv lt' x) = [] := fun k hk => List.filter_eq_nil_iff.mpr fun u hu q => ex ⟨u, hk u hu, q⟩
    rw [no l (fun a ha => (hm a).mp ha), no m (fun a ha => ha)]
section
variable {X : Cx} {pins : List (Addr × Obj)} {σ : L2.St} {H : Hp} {s : Shared} {scope : Scope} {j : Nat} {x : Str}
/-- all but what stands at P stays -/
def ExtP (P : Addr) (H H' : Hp) : Prop := ∀ b o, b ≠ P → H b = some o → H' b = some o
/-- the table at P before (H) and after (H'): its code objects are old ones or were not there -/
def TabTo (P : Addr) (q : Str) (H H' : Hp) : Prop := ∃ ps ps' : Array Value, H P = some (.tbl ps) ∧ H' P = some (.tbl ps') ∧ TriplesOk ps'.toList ∧
  ∀ (pos : Pos) (cv : Value), codeAmong pos ps'.toList = some cv → ∃ c, cv = .ref c ∧ H' c = some (CodeO c q) ∧ (H c = none ∨ ∃ pos', codeAmong pos' ps.toList = some (.ref c))
end
end DL

set_option Elab.async false
set_option linter.all false
set_option maxRecDepth 100000
set_option maxHeartbeats 1000000
set_option autoImplicit false
/-! d.get; sorted by what a dict tells of the names at the indexes. -/
namespace DL
open PySem PySem.Spec PyProof.Rows L2 LamX SrtO
section
variable {K : PySem.W.Frag} {m : Mem} {H H2 : Hp} {P : Addr} {q : Str}
theorem MemOk.tab (M : MemOk K m H) (hP : MAt m P (.tbl q)) (e : ExtP P H H2) (t : TabTo P q H H2) : MemOk K m H2 ∧ Sub (hide m H) (hide m H2) := by
  obtain ⟨i, hP⟩ := hP
  have inP : P ∈ m.map Prod.fst := List.mem_map.mpr ⟨_, List.mem_of_getElem? hP, rfl⟩
  have sb : Sub (hide m H) (hide m H2) := fun a o ha => by
    by_cases hm : a ∈ m.map Prod.fst
    · rw [hide_in hm] at ha
      cases ha
    · rw [hide_out hm] at ha ⊢
      exact e a o (fun z => hm (z ▸ inP)) ha
  refine ⟨⟨M.nd, fun p c hm => ?_⟩, sb⟩
  by_cases hp : p = P
  · subst hp
    have ec : c = .tbl q := by
      obtain ⟨j, hj⟩ := List.getElem?_of_mem hm
      have l1 : j < (m.map Prod.fst).length := by rw [List.length_map]; exact (List.getElem?_eq_some_iff.mp hj).1
      have eij : j = i := (List.getElem?_inj l1 M.nd).mp (by rw [List.getElem?_map, List.getElem?_map, hP, hj]; rfl)
      rw [eij, hP] at hj
      cases hj
      rfl
    subst ec
    obtain ⟨ps, ps', t1, t2, t3, t4⟩ := t
    obtain ⟨ps0, h1, _, h3⟩ := M.get hP
    rw [t1] at h1
    cases h1
    refine ⟨ps', t2, t3, fun pos cv hc => ?_⟩
    obtain ⟨c, e1, e2, e3⟩ := t4 pos cv hc
    refine ⟨c, e1, ?_⟩
    rcases e3 with z | ⟨pos', z⟩
    · rw [hide_out (M.fresh z)]
      exact e2
    · obtain ⟨c0, f1, f2⟩ := h3 pos' _ z
      cases f1
      exact sb _ _ f2
  · have h := M.at_ p c hm
    obtain ⟨o, ho⟩ := h.some
    exact h.mono sb ((e p o hp ho).trans ho.symm)
end
section
variable {K : PySem.W.Frag} {δ : List (Option D)} {m : Mem} {Q : D → Mem → Prop} {td ty tx te : TE}
/-- a dict, as data or as a cell -/
def DctIn (m : Mem) (x : D) (kvs : List (Key × D)) : Prop := x = .dic kvs ∨ ∃ p, x = .adr p ∧ MAt m p (.dic kvs)
theorem DctIn.of {kvs : List (Key × D)} : DctIn m (.dic kvs) kvs := .inl rfl
theorem DctIn.at_ {p : Addr} {kvs : List (Key × D)} (h : MAt m p (.dic kvs)) : DctIn m (.adr p) kvs := .inr ⟨p, rfl, h⟩
theorem DctIn.app {r : Mem} {x : D} {kvs : List (Key × D)} (h : DctIn m x kvs) : DctIn (m ++ r) x kvs := h.imp id fun ⟨p, e, h⟩ => ⟨p, e, h.app⟩
theorem DctIn.cons {c : Addr × Cell} {x : D} {kvs : List (Key × D)} (h : DctIn m x kvs) : DctIn (c :: m) x kvs := h.imp id fun ⟨p, e, h⟩ => ⟨p, e, h.cons⟩
theorem DctIn.get {x : D} {kvs : List (Key × D)} {H : Hp} {v : V} (h : DctIn m x kvs) (M : MemOk K m H) (r : Rd K (hide m H) v x) : ∃ (a : Addr) (xs : List (Key × V)), v = .ref a ∧ H a = some (.dK xs) ∧ xs.map Prod.fst = kvs.map Prod.fst ∧ RdL K (hide m H) (xs.map Prod.snd) (kvs.map Prod.snd) := by
  rcases h with rfl | ⟨p, rfl, i, hm⟩
  · exact dic_at r
  · cases r
    obtain ⟨xs, h1, h2, h3⟩ := dicM_at M hm
    exact ⟨p, xs, rfl, h1, h2, h3⟩
theorem dic_val {H : Hp} {kvs : List (Key × D)} {xs : List (Key × V)} (k : Key) {z : V} {d : D} (e : xs.map Prod.fst = kvs.map Prod.fst) (r : RdL K (hide m H) (xs.map Prod.snd) (kvs.map Prod.snd)) (rz : Rd K (hide m H) z d) : Rd K (hide m H) ((L2.valV xs k).getD z) ((valD kvs k).getD d) := by
  obtain ⟨h1, h2⟩ := RdL.valV k e r
  cases c : valD kvs k with
  | none =>
    rw [h2 c]
    exact rz
  | some y =>
    obtain ⟨v, e1, r1⟩ := h1 y c
    rw [e1]
    exact r1
/-- d.get(k) -/
theorem ew_dget1 (h : EW K td δ m fun x m1 => ∃ kvs, DctIn m1 x kvs ∧ EW K ty δ m1 fun y m2 => ∃ (kvs : List (Key × D)) (k : Key), DctIn m2 x kvs ∧ y = kD k ∧ Q ((valD kvs k).getD .non) m2) : EW K (tDGet1 td ty) δ m Q := fun σ H s M QQ k =>
  h σ H s M _ fun x m1 v H1 ⟨kvs, hd, q1⟩ s1 M1 r1 => by
    obtain ⟨a, xs, rfl, ha, _⟩ := hd.get M1 r1
    refine ⟨a, rfl, .inl ⟨xs, .inl ha⟩, ?_⟩
    refine q1 σ H1 (s.mono s1) M1 _ fun y m2 w H2 ⟨kvs, kk, d2, ey, q2⟩ s2 M2 r2 => ?_
    subst ey
    obtain ⟨a2, xs2, e2, h2, f2, g2⟩ := d2.get M2 (r1.mono s2)
    cases e2
    refine ⟨L2.valV xs2 kk, .inl ⟨xs2, kk, .inl h2, kD_v r2, rfl⟩, ?_⟩
    exact k _ m2 _ H2 q2 (s1.trans s2) M2 (dic_val kk f2 g2 .non)
/-- d.get(k, x) -/
theorem ew_dget2 (h : EW K td δ m fun x m1 => ∃ kvs, DctIn m1 x kvs ∧ EW K ty δ m1 fun y m2 => EW K tx δ m2 fun z m3 => ∃ (kvs : List (Key × D)) (k : Key), DctIn m3 x kvs ∧ y = kD k ∧ Q ((valD kvs k).getD z) m3) : EW K (tDGet2 td ty tx) δ m Q := fun σ H s M QQ k =>
  h σ H s M _ fun x m1 v H1 ⟨kvs, hd, q1⟩ s1 M1 r1 => by
    obtain ⟨a, xs, rfl, ha, _⟩ := hd.get M1 r1
    refine ⟨a, rfl, .inl ⟨xs, .inl ha⟩, ?_⟩
    refine q1 σ H1 (s.mono s1) M1 _ fun y m2 w H2 q2 s2 M2 r2 => ?_
    refine (show EW K tx δ m2 _ from q2) σ H2 ((s.mono s1).mono s2) M2 _ fun z m3 u H3 ⟨kvs, kk, d2, ey, q3⟩ s3 M3 r3 => ?_
    subst ey
    obtain ⟨a2, xs2, e2, h2, f2, g2⟩ := d2.get M3 (r1.mono (s2.trans s3))
    cases e2
    refine ⟨L2.valV xs2 kk, .inl ⟨xs2, kk, .inl h2, kD_v (r2.mono s3), rfl⟩, ?_⟩
    exact k _ m3 _ H3 q3 (s1.trans (s2.trans s3)) M3 (dic_val kk f2 g2 r3)
end
section
variable {Pg : Program} {w : World} {K : PySem.W.Frag} {m : Mem} {Q : D → Mem → Prop} {p : Addr}
end
/-! ### a list, as data or as a cell, or a tuple -/
def SeqT (m : Mem) (x : D) (ds : List D) : Prop := SeqIn m x ds ∨ x = .tup ds
theorem SeqT.app {m r : Mem} {x : D} {ds : List D} (h : SeqT m x ds) : SeqT (m ++ r) x ds := h.imp SeqIn.app id
theorem SeqT.of {m : Mem} {ds : List D} : SeqT m (.lst ds) ds := .inl .of
theorem SeqIn.cons {m : Mem} {c : Addr × Cell} {x : D} {ds : List D} (h : SeqIn m x ds) : SeqIn (c :: m) x ds := h.imp id fun ⟨p, e, h⟩ => ⟨p, e, h.cons⟩
section
variable {K : PySem.W.Frag} {δ : List (Option D)} {m : Mem} {Q : D → Mem → Prop} {te tl : TE} {P : Ps} {R : XS} {t : TS} {u : WX → TS} {g : TG}
end
def srtS (ws : List Str) : List Str := ws.mergeSort fun a b => !ltCps b.cps.toList a.cps.toList
theorem srtS_perm (ws : List Str) : (srtS ws).Perm ws := List.mergeSort_perm _ _
section
variable {K : PySem.W.Frag} {m : Mem} {Q : D → Mem → Prop}
end
/-! ### cells that nobody needs any more -/
/-- m1 is m with some cells more -/
def Gb (m m1 : Mem) : Prop := ∃ G : Mem, m1.Perm (m ++ G)
theorem Gb.refl {m : Mem} : Gb m m := ⟨[], by rw [List.append_nil]⟩
theorem Gb.app {m m1 r : Mem} (h : Gb m m1) : Gb m (m1 ++ r) := let ⟨G, h⟩ := h; ⟨G ++ r, by rw [← List.append_assoc]; exact h.append_right r⟩
theorem Gb.cons {m m1 : Mem} {x : Addr × Cell} (h : Gb m m1) : Gb (x :: m) (x :: m1) := let ⟨G, h⟩ := h; ⟨G, h.cons x⟩
theorem Gb.snoc {m m1 : Mem} {x : Addr × Cell} (h : Gb m m1) : Gb (m ++ [x]) (m1 ++ [x]) := let ⟨G, h⟩ := h; ⟨G, by
  refine (h.append_right [x]).trans ?_
  rw [List.append_assoc, List.append_assoc]
  exact List.Perm.append_left m List.perm_append_comm⟩
theorem Gb.perm {m m1 m2 : Mem} (h : Gb m m1) (p : m2.Perm m1) : Gb m m2 := let ⟨G, h⟩ := h; ⟨G, p.trans h⟩
theorem Gb.of {m m1 : Mem} (p : m1.Perm m) : Gb m m1 := Gb.refl.perm p
theorem Gb.trans {m m1 m2 : Mem} (h : Gb m m1) (h' : Gb m1 m2) : Gb m m2 := let ⟨G, h⟩ := h; let ⟨G', h'⟩ := h'; ⟨G ++ G', by rw [← List.append_assoc]; exact h'.trans (h.append_right G')⟩
theorem Gb.drop {m m1 : Mem} {x : Addr × Cell} (h : Gb m m1) : Gb m (x :: m1) := let ⟨G, h⟩ := h; ⟨x :: G, (h.cons x).trans List.perm_middle.symm⟩
section
variable {K : PySem.W.Frag} {H : Hp} {δ : List (Option D)} {m : Mem} {P : Ps} {R : XS} {t : TS} {u : WX → TS} {te : TE} {tt : TT} {Q : D → Mem → Prop}
theorem MemOk.dropG : ∀ (G : Mem) {m : Mem}, MemOk K (m ++ G) H → MemOk K m H ∧ Sub (hide (m ++ G) H) (hide m H)
  | [], m, M => by
    rw [List.append_nil] at M ⊢
    exact ⟨M, Sub.refl _⟩
  | x :: G, m, M => by
    have e : m ++ x :: G = (m ++ [x]) ++ G := by simp
    rw [e] at M ⊢
    obtain ⟨M1, s1⟩ := dropG G M
    obtain ⟨M2, s2, _⟩ := M1.drop (p := x.1) (c := x.2)
    exact ⟨M2, s1.trans s2⟩
theorem MemOk.gb {m1 : Mem} (M : MemOk K m1 H) (g : Gb m m1) : MemOk K m H ∧ Sub (hide m1 H) (hide m H) := by
  obtain ⟨G, p⟩ := g
  have := MemOk.dropG G (M.perm p)
  rw [← hide_perm p] at this
  exact this
theorem sw_free (h : SW K t δ m { nx := fun δ' m1 => ∃ m2, Gb m2 m1 ∧ P.nx δ' m2, rt := fun d m1 => ∃ m2, Gb m2 m1 ∧ P.rt d m2, bk := fun δ' m1 => ∃ m2, Gb m2 m1 ∧ P.bk δ' m2, ct := fun δ' m1 => ∃ m2, Gb m2 m1 ∧ P.ct δ' m2 }) : SW K t δ m P := fun σ H s M E k =>
  h σ H s M E ⟨fun δ' m' σ' H' ⟨m2, g, q⟩ s1 S1 M1 => let ⟨M2, s2⟩ := M1.gb g; k.nx δ' m2 σ' H' q (s1.trans s2) (S1.mono s2) M2, fun d m' v H' ⟨m2, g, q⟩ s1 M1 r1 => let ⟨M2, s2⟩ := M1.gb g; k.rt d m2 v H' q (s1.trans s2) M2 (r1.mono s2),
    fun δ' m' σ' H' ⟨m2, g, q⟩ s1 S1 M1 => let ⟨M2, s2⟩ := M1.gb g; k.bk δ' m2 σ' H' q (s1.trans s2) (S1.mono s2) M2, fun δ' m' σ' H' ⟨m2, g, q⟩ s1 S1 M1 => let ⟨M2, s2⟩ := M1.gb g; k.ct δ' m2 σ' H' q (s1.trans s2) (S1.mono s2) M2⟩
/-- a cell, wherever it stands, is data from now on -/
theorem ew_data (h : EW K te δ m fun x m1 => ∃ p c d m2, x = .adr p ∧ m1.Perm (m2 ++ [(p, c)]) ∧ c.d = some d ∧ Q d m2) : EW K te δ m Q :=
  ew_still (ew_perm (h.imp fun x m1 ⟨p, c, d, m2, e1, e2, e3, q⟩ => ⟨_, e2, p, c, d, m2, e1, rfl, e3, q⟩))
theorem sw_seqJ {t u : TS} {R : Ps} (J : List (Option D) → Mem → Prop) (h : SW K t δ m { R with nx := J }) (n : ∀ δ' m', J δ' m' → SW K u δ' m' R) : SW K (tSeq t u) δ m R :=
  sw_seq (sw_mid h n (fun _ _ q => q) (fun _ _ q => q) (fun _ _ q => q))
end
/-! ### displays by their number of items -/
section
variable {K : PySem.W.Frag} {δ : List (Option D)} {m : Mem} {Q : D → Mem → Prop}
theorem ew_tup1 {t0 : TE} (h0 : EW K t0 δ m fun x0 m1 => Q (.tup [x0]) m1) : EW K (tTup (tCons t0 tNil)) δ m Q := ew_tup (aw_cons (EW.imp h0 fun x0 m1 h1 => aw_nil ⟨Nat.le_of_ble_eq_true rfl, h1⟩))
theorem ew_tup2 {t0 t1 : TE} (h0 : EW K t0 δ m fun x0 m1 => EW K t1 δ m1 fun x1 m2 => Q (.tup [x0, x1]) m2) : EW K (tTup (tCons t0 (tCons t1 tNil))) δ m Q := ew_tup (aw_cons (EW.imp h0 fun x0 m1 h1 => aw_cons (EW.imp h1 fun x1 m2 h2 => aw_nil ⟨Nat.le_of_ble_eq_true rfl, h2⟩)))
theorem ew_tup3 {t0 t1 t2 : TE} (h0 : EW K t0 δ m fun x0 m1 => EW K t1 δ m1 fun x1 m2 => EW K t2 δ m2 fun x2 m3 => Q (.tup [x0, x1, x2]) m3) : EW K (tTup (tCons t0 (tCons t1 (tCons t2 tNil)))) δ m Q := ew_tup (aw_cons (EW.imp h0 fun x0 m1 h1 => aw_cons (EW.imp h1 fun x1 m2 h2 => aw_cons (EW.imp h2 fun x2 m3 h3 => aw_nil ⟨Nat.le_of_ble_eq_true rfl, h3⟩))))
theorem ew_tup4 {t0 t1 t2 t3 : TE} (h0 : EW K t0 δ m fun x0 m1 => EW K t1 δ m1 fun x1 m2 => EW K t2 δ m2 fun x2 m3 => EW K t3 δ m3 fun x3 m4 => Q (.tup [x0, x1, x2, x3]) m4) : EW K (tTup (tCons t0 (tCons t1 (tCons t2 (tCons t3 tNil))))) δ m Q := ew_tup (aw_cons (EW.imp h0 fun x0 m1 h1 => aw_cons (EW.imp h1 fun x1 m2 h2 => aw_cons (EW.imp h2 fun x2 m3 h3 => aw_cons (EW.imp h3 fun x3 m4 h4 => aw_nil ⟨Nat.le_of_ble_eq_true rfl, h4⟩)))))
theorem ew_l0 (h0 : Q (.lst []) m) : EW K (tLst tNil) δ m Q := ew_lst (aw_nil ⟨Nat.le_of_ble_eq_true rfl, h0⟩)
theorem ew_l2 {t0 t1 : TE} (h0 : EW K t0 δ m fun x0 m1 => EW K t1 δ m1 fun x1 m2 => Q (.lst [x0, x1]) m2) : EW K (tLst (tCons t0 (tCons t1 tNil))) δ m Q := ew_lst (aw_cons (EW.imp h0 fun x0 m1 h1 => aw_cons (EW.imp h1 fun x1 m2 h2 => aw_nil ⟨Nat.le_of_ble_eq_true rfl, h2⟩)))
theorem ew_l3 {t0 t1 t2 : TE} (h0 : EW K t0 δ m fun x0 m1 => EW K t1 δ m1 fun x1 m2 => EW K t2 δ m2 fun x2 m3 => Q (.lst [x0, x1, x2]) m3) : EW K (tLst (tCons t0 (tCons t1 (tCons t2 tNil)))) δ m Q := ew_lst (aw_cons (EW.imp h0 fun x0 m1 h1 => aw_cons (EW.imp h1 fun x1 m2 h2 => aw_cons (EW.imp h2 fun x2 m3 h3 => aw_nil ⟨Nat.le_of_ble_eq_true rfl, h3⟩))))
theorem ew_l4 {t0 t1 t2 t3 : TE} (h0 : EW K t0 δ m fun x0 m1 => EW K t1 δ m1 fun x1 m2 => EW K t2 δ m2 fun x2 m3 => EW K t3 δ m3 fun x3 m4 => Q (.lst [x0, x1, x2, x3]) m4) : EW K (tLst (tCons t0 (tCons t1 (tCons t2 (tCons t3 tNil))))) δ m Q := ew_lst (aw_cons (EW.imp h0 fun x0 m1 h1 => aw_cons (EW.imp h1 fun x1 m2 h2 => aw_cons (EW.imp h2 fun x2 m3 h3 => aw_cons (EW.imp h3 fun x3 m4 h4 => aw_nil ⟨Nat.le_of_ble_eq_true rfl, h4⟩)))))
theorem ew_l8 {t0 t1 t2 t3 t4 t5 t6 t7 : TE} (h0 : EW K t0 δ m fun x0 m1 => EW K t1 δ m1 fun x1 m2 => EW K t2 δ m2 fun x2 m3 => EW K t3 δ m3 fun x3 m4 => EW K t4 δ m4 fun x4 m5 => EW K t5 δ m5 fun x5 m6 => EW K t6 δ m6 fun x6 m7 => EW K t7 δ m7 fun x7 m8 => Q (.lst [x0, x1, x2, x3, x4, x5, x6, x7]) m8) : EW K (tLst (tCons t0 (tCons t1 (tCons t2 (tCons t3 (tCons t4 (tCons t5 (tCons t6 (tCons t7 tNil))))))))) δ m Q := ew_lst (aw_cons (EW.imp h0 fun x0 m1 h1 => aw_cons (EW.imp h1 fun x1 m2 h2 => aw_cons (EW.imp h2 fun x2 m3 h3 => aw_cons (EW.imp h3 fun x3 m4 h4 => aw_cons (EW.imp h4 fun x4 m5 h5 => aw_cons (EW.imp h5 fun x5 m6 h6 => aw_cons (EW.imp h6 fun x6 m7 h7 => aw_cons (EW.imp h7 fun x7 m8 h8 => aw_nil ⟨Nat.le_of_ble_eq_true rfl, h8⟩)))))))))
theorem ew_lM0 (h0 : ∀ p, Q (.adr p) (m ++ [(p, .lst [])])) : EW K (tLst tNil) δ m Q := ew_lstM (aw_nil ⟨Nat.le_of_ble_eq_true rfl, h0⟩)
end
end DL

set_option Elab.async false
set_option linter.all false
set_option maxRecDepth 100000
set_option maxHeartbeats 1000000
set_option autoImplicit false
/-! The end of a law whose program makes one lambda: its maker's table of code objects is a cell from the start. -/
namespace DL
open PySem PySem.Spec PyProof.Rows L2 LamX
section
variable {K : PySem.W.Frag} {x qual : Str} {st : Stmt} {f c : Addr} {ps : List Str}
variable {P : Program} {w : World} {mg : Str → Option Value} {base : Heap} {k : Nat} {N : List Str} {Pf : FS}
end
section
variable {P : Program} {w : World} {K : PySem.W.Frag} {mg mb : Str → Option Value} {k : Nat} {fa a c T : Addr} {fd : FuncData} {x q : Str} {Pf : FS} {s : Shared} {vs : List Value} {ns : List Int}
end
end DL

set_option Elab.async false
set_option linter.all false
set_option maxRecDepth 100000
set_option maxHeartbeats 1000000
set_option autoImplicit false
/-! sorted(xs), xs a list of pairs of whole numbers. -/
namespace DL
open PySem PySem.Spec PyProof.Rows L2 LamX SrtO
open Classical in
section
variable {K : PySem.W.Frag} {δ : List (Option D)} {m : Mem} {Q : D → Mem → Prop} {F : Hp}
end
/-! ### cells lent as data -/
/-- whether it names no place of the heap but by its address -/
def D.sc : D → Bool
  | .non | .bl _ | .int _ | .str _ | .ty _ | .adr _ => true
  | _ => false
/-- a plain value, or a tuple of such -/
def D.tsc : D → Bool
  | .tup ds => ds.all D.sc
  | d => d.sc
def Cell.flat : Cell → Bool
  | .lst ds => ds.all D.tsc
  | .dic kvs => (kvs.map Prod.snd).all D.sc
  | .ins _ fs => (fs.map Prod.snd).all D.sc
  | .xd fs => (fs.map Prod.snd).all D.sc
  | .dct kvs => (kvs.map Prod.snd).all D.tsc
  | .obj _ => true
  | .tbl _ => true
def Cell.own : Cell → Bool
  | .obj _ => false
  | _ => true
section
variable {K : PySem.W.Frag} {δ δ' : List (Option D)} {m m0 m1 r : Mem} {Q : D → Mem → Prop} {F G H H1 : Hp}
theorem Rd.sc {v : V} {d : D} (h : d.sc = true) (x : Rd K F v d) : Rd K G v d := by
  cases x with
  | non => exact .non
  | bl b => exact .bl b
  | int i => exact .int i
  | str x => exact .str x
  | adr a => exact .adr a
  | ty n => exact .ty n
  | _ => cases h
theorem RdL.sc : ∀ {vs : List V} {ds : List D}, ds.all D.sc = true → RdL K F vs ds → RdL K G vs ds
  | _, _, _, .nil => .nil
  | _, _, h, .cons a b => by
    rw [List.all_cons, Bool.and_eq_true] at h
    exact .cons (Rd.sc h.1 a) (RdL.sc h.2 b)
def ownHO : HO → Bool
  | .lst _ | .dK _ | .dT _ | .ins _ _ _ | .xd _ | .tbl _ => true
  | _ => false
theorem Rd.tsc {v : V} {d : D} (h : d.tsc = true) (t : ∀ a o, F a = some o → ownHO o = false → G a = some o) (x : Rd K F v d) : Rd K G v d := by
  cases x with
  | non => exact .non
  | bl b => exact .bl b
  | int i => exact .int i
  | str x => exact .str x
  | adr a => exact .adr a
  | ty n => exact .ty n
  | tup e r =>
    refine .tup ?_ (RdL.sc h r)
    rcases e with (q | ⟨o, q⟩) | q
    · exact .inl (.inl (t _ _ q rfl))
    · exact .inl (.inr ⟨o, t _ _ q rfl⟩)
    · exact .inr q
  | _ => cases h
theorem RdL.tsc (t : ∀ a o, F a = some o → ownHO o = false → G a = some o) : ∀ {vs : List V} {ds : List D}, ds.all D.tsc = true → RdL K F vs ds → RdL K G vs ds
  | _, _, _, .nil => .nil
  | _, _, h, .cons a b => by
    rw [List.all_cons, Bool.and_eq_true] at h
    exact .cons (Rd.tsc h.1 t a) (RdL.tsc t h.2 b)
/-- δ' is δ, some cells of r told as data -/
def Lent (r : Mem) (δ δ' : List (Option D)) : Prop := δ'.length = δ.length ∧ ∀ (i : Nat) (d : D), δ'[i]? = some (some d) → δ[i]? = some (some d) ∨ ∃ (z : Addr) (c : Cell), δ[i]? = some (some (D.adr z)) ∧ (z, c) ∈ r ∧ c.d = some d
theorem Lent.refl : Lent r δ δ := ⟨rfl, fun _ _ h => .inl h⟩
theorem Lent.set {i : Nat} {z : Addr} {c : Cell} {d : D} (L : Lent r δ δ') (e : δ[i]? = some (some (D.adr z))) (hc : (z, c) ∈ r) (ec : c.d = some d) : Lent r δ (δ'.set i (some d)) := by
  refine ⟨by rw [List.length_set]; exact L.1, fun j x h => ?_⟩
  by_cases hj : i = j
  · subst hj
    have hl : i < δ'.length := by
      rw [L.1]
      exact (List.getElem?_eq_some_iff.mp e).1
    rw [List.getElem?_set_self hl] at h
    cases h
    exact .inr ⟨z, c, e, hc, ec⟩
  · rw [List.getElem?_set_ne hj] at h
    exact L.2 j x h
theorem Lent.sl {σ : L2.St} (L : Lent r δ δ') (M : MemOk K (m0 ++ r) H) (s : Sl K (hide (m0 ++ r) H) σ δ) : Sl K (hide m0 H) σ δ' := by
  have sb := (MemOk.dropG r M).2
  have nd := M.nd
  rw [List.map_append] at nd
  refine ⟨s.1.trans L.1.symm, fun i d h => ?_⟩
  rcases L.2 i d h with h | ⟨z, c, e, hc, ec⟩
  · obtain ⟨v, e1, r1⟩ := s.2 i d h
    exact ⟨v, e1, r1.mono sb⟩
  · obtain ⟨v, e1, r1⟩ := s.2 i _ e
    cases r1
    refine ⟨_, e1, still_of (M.at_ z c (List.mem_append_right _ hc)) ec sb (hide_out fun q => ?_)⟩
    exact (List.nodup_append.mp nd).2.2 z q z (List.mem_map_of_mem (f := Prod.fst) hc) rfl
end
/-! ### new cells; what is done to them -/
section
variable {K : PySem.W.Frag} {δ : List (Option D)} {m : Mem} {Q : D → Mem → Prop} {te : TE} {p : Addr} {ds : List D}
theorem ew_listM (h : EW K te δ m fun x m1 => ∃ ds, SeqIn m1 x ds ∧ ∀ z, Q (.adr z) (m1 ++ [(z, .lst ds)])) : EW K (tCB (rListU K) (tCons te tNil)) δ m Q := by
  refine ew_cb (aw_cons (h.imp fun x m1 ⟨ds, hx, q⟩ => aw_nil ?_))
  rcases hx with rfl | ⟨p, rfl, hm⟩
  · exact cw_listLM q
  · intro H vs M a QQ k
    cases a with
    | cons a b =>
      cases b
      obtain ⟨p', xs, e0, e, r⟩ := (show SeqIn m1 (.adr p) ds from .inr ⟨p, rfl, hm⟩).get M a
      subst e0
      refine ⟨p', xs, rfl, .inl (SqL.of e), fun z hz => ?_⟩
      obtain ⟨M2, s2⟩ := new_lstM M r hz
      exact k _ _ _ _ (q z) s2 M2 (.adr z)
end
section
variable {K : PySem.W.Frag} {δ : List (Option D)} {m : Mem} {Q : D → Mem → Prop} {te : TE} {p : Addr} {ds : List D}
theorem MUp.at_ {c c' : Cell} {m' : Mem} (h : MUp m p c c' m') : MAt m p c := let ⟨i, h, _⟩ := h; ⟨i, h⟩
end
theorem sOk_iff {x : Str} : PyData.strOk x = true ↔ ∀ c ∈ x.cps.toList, c < 1114112 := by
  unfold PyData.strOk
  rw [Array.all_eq_true']
  exact ⟨fun h c hc => of_decide_eq_true (h c (by simpa using hc)), fun h c hc => decide_eq_true (h c (by simpa using hc))⟩
theorem sOk_app {a b : Str} (ha : PyData.strOk a = true) (hb : PyData.strOk b = true) : PyData.strOk (a ++ b) = true := by
  rw [sOk_iff] at *
  intro c hc
  rw [show (a ++ b).cps.toList = a.cps.toList ++ b.cps.toList by show (a.cps ++ b.cps).toList = _; simp] at hc
  rcases List.mem_append.mp hc with h | h
  · exact ha c h
  · exact hb c h
theorem sOk_of (s : String) : PyData.strOk (Str.ofString s) = true := by
  rw [Str.ofString_eq_byList, sOk_iff]
  intro c hc
  have hc : c ∈ (s.toList.map Char.toNat).toArray.toList := hc
  rw [List.toList_toArray] at hc
  obtain ⟨d, _, rfl⟩ := List.mem_map.mp hc
  have := d.valid
  unfold UInt32.isValidChar Nat.isValidChar at this
  show d.val.toNat < _
  omega
theorem sOk_txt : ∀ (ts : List Str) (k : Nat) (acc : Str), PyData.strOk acc = true → (∀ t ∈ ts, PyData.strOk t = true) → PyData.strOk (textFrom k acc ts) = true
  | [], _, _, h, _ => h
  | t :: ts, k, acc, h, g => sOk_txt ts (k + 1) _ (sOk_app (sOk_app h (by split <;> exact sOk_of _)) (g t List.mem_cons_self)) fun x hx => g x (List.mem_cons_of_mem _ hx)
theorem shownAll_map : ∀ xs : List PyData, PyData.shownAll xs = xs.map PyData.shown
  | [] => by simp only [PyData.shownAll, List.map_nil]
  | x :: xs => by simp only [PyData.shownAll, List.map_cons, shownAll_map xs]
theorem sOk_list {xs : List PyData} (h : ∀ x ∈ xs, PyData.strOk x.shown = true) : PyData.strOk (PyData.list xs).shown = true := by
  simp only [PyData.shown, listText]
  refine sOk_app (sOk_txt _ _ _ (sOk_of _) fun t ht => ?_) (sOk_of _)
  rw [shownAll_map] at ht
  obtain ⟨x, hx, rfl⟩ := List.mem_map.mp ht
  exact h x hx
/-! ### raising terms within others -/
section
variable {K : PySem.W.Frag} {δ : List (Option D)} {m : Mem} {Q : D → Mem → Prop} {te : WX → TE} {tb : TE} {P : Ps} {R : XS} {g : TG}
end
/-! ### list(range(a, b)) -/
section
variable {K : PySem.W.Frag} {δ : List (Option D)} {m : Mem} {Q : D → Mem → Prop} {ta tb : TE}
end
end DL

set_option Elab.async false
set_option linter.all false
set_option maxRecDepth 100000
set_option maxHeartbeats 1000000
set_option autoImplicit false
/-! == and != of lists of instances with an own ==, where they are equal. -/
namespace DL
open PySem PySem.Spec PyProof.Rows L2 LamX SrtO
section
open MeetsSeq MeetsSeq2 MeetsSeq3 SeqRoads2
open AutoSeq1 (wpAny_loadPart')
variable {P : Program} {w : World} {A : Around} {RR : Result → Shared → Prop}
end
section
variable {X : Cx} {k : Nat} {f C : Addr} {ps : List Str} {Pf : FS}
end
section
variable {K : PySem.W.Frag} {m : Mem} {Q : D → Mem → Prop} {C : Addr} {Pf : FS} {ds es : List D}
end
end DL

set_option Elab.async false
set_option linter.all false
set_option maxRecDepth 100000
set_option maxHeartbeats 1000000
set_option autoImplicit false
/-! list(d.items()), d a dict as data. -/
namespace DL
open PySem PySem.Spec PyProof.Rows L2 LamX SrtO
section
variable {K : PySem.W.Frag} {δ : List (Option D)} {m : Mem} {Q : D → Mem → Prop} {te : TE}
end
end DL

set_option Elab.async false
set_option linter.all false
set_option maxRecDepth 100000
set_option maxHeartbeats 1000000
set_option autoImplicit false
/-! Defs that raise and that come to repr: entered where no guard is up. -/
namespace DL
open PySem PySem.Spec PyProof.Rows L2
structure FnGX (P : Program) (w : World) (K : PySem.W.Frag) (mg : Str → Option Value) (base : Heap) (CX : CXT) (k : Nat) (f : Addr) (fd : FuncData) (ps : List Str) (sp : Sp) : Prop where
  long : ∀ vs H Q E, sp vs H Q E → vs.length = ps.length
  go : ∀ (A : Around) (up : List Env) (s : Shared) (H : Hp) (args : Args) (us : List Value) (vs : List V) (Q : VK) (E : XK), A.guards = some [] → Room k A → Env0 P w K mg base A up s H → BindsTo s fd args (ps.zip us) → Vals vs us → sp vs H Q E →
    codeAny (model P w) A (.call (.ref f) args) (CR CX up P w H s Q E) s
section
variable {P : Program} {w : World} {K : PySem.W.Frag} {mg : Str → Option Value} {base : Heap} {f : Addr} {fd : FuncData} {ps : List Str} {sp : Sp} {k : Nat} {CX : CXT}
theorem FnGX.up {j : Nat} (F : FnGX P w K mg base CX j f fd ps sp) (h : j ≤ k) : FnGX P w K mg base CX k f fd ps sp := ⟨F.long, fun A up s H args us vs Q E hg hr => F.go A up s H args us vs Q E hg (hr.mono h)⟩
theorem FnGX.of (F : FnOk P w K mg base CX k f fd ps sp) : FnGX P w K mg base CX k f fd ps sp := ⟨F.len, fun A up s H args us vs Q E _ hr => F.run A up s H args us vs Q E hr⟩
end
section
variable {P : Program} {w : World} {K : PySem.W.Frag} {mg : Str → Option Value} {base : Heap} {k : Nat} {f : Addr} {ps : List Str} {Pf : FX}
def DefGX (P : Program) (w : World) (K : PySem.W.Frag) (mg : Str → Option Value) (base : Heap) (k : Nat) (f : Addr) (ps : List Str) (Pf : FX) : Prop := ∃ fd, FnGX P w K mg base (CX P w) k f fd ps (spX K Pf) ∧ Binds K fd ps [] ∧ FdAt K f fd
theorem DefGX.up {j : Nat} (h : DefGX P w K mg base j f ps Pf) (l : j ≤ k) : DefGX P w K mg base k f ps Pf := let ⟨fd, F, b⟩ := h; ⟨fd, F.up l, b⟩
/-- where it raises nothing -/
theorem DefGX.quiet (h : DefGX P w K mg base k f ps Pf) : DefG P w K mg base k f ps Pf.quiet := by
  obtain ⟨fd, F, b, e⟩ := h
  have up : ∀ {vs : List V} {H : Hp} {Q : VK} {E : XK}, spOf K Pf.quiet vs H Q E → spX K Pf vs H Q fun _ _ _ => False := fun {vs H Q E} ⟨ds, m, QS, r, M, p, q⟩ => ⟨ds, m, QS, _, r, M, p, q, fun _ _ _ _ _ z => z.elim⟩
  refine ⟨fd, ⟨fun vs H Q E q => F.long vs H Q _ (up q), fun A outer s H args us vs Q hg hr he hb hv q => codeAny_mono (F.go A outer s H args us vs Q _ hg hr he hb hv (up q)) fun r s' c => ?_⟩, b, e⟩
  match r, c with
  | .error e, c => obtain ⟨_, _, _, _, _, _, _, _, _, _, _, _, z⟩ := c; exact z.elim
  | .ok (.ret u), c => exact c
  | .ok .next, c => exact c
  | .ok .brk, c => exact c
  | .ok .cont, c => exact c
end
section
variable {X : Cx} {CX : CXT} {k n : Nat} {f C : Addr} {fd : FuncData} {ps ks : List Str} {sp : Sp} {E : XK} {g : List Value → List Value → List Value} {gV : List V → List V → List V}
end
section
variable {X : Cx} {k n : Nat} {f C : Addr} {ps ks : List Str} {Pf : FX} {W : WX} {x nm : Str} {p pos apos : Pos} {e o : Expr} {es : List Expr} {kws : List Keyword} {ta : TE} {t tk : TA} {idx : List Nat} {dd : List D} (K : PySem.W.Frag) (hK : X.K = K)
include hK
end
end DL

set_option Elab.async false
set_option linter.all false
set_option maxRecDepth 100000
set_option maxHeartbeats 1000000
set_option autoImplicit false
/-! Shown lists and tuples in which flat dicts stand; a dict held against the empty one. -/
namespace DL
open PySem PySem.Spec PyProof.Rows L2
def kPy : Key → PyData
  | .inl i => .int i
  | .inr x => .str x
/-- a plain value of a dict -/
inductive Fl : V → PyData → Prop
  | non : Fl .non .none
  | int (i : Int) : Fl (.int i) (.int i)
  | str (x : Str) : Fl (.str x) (.str x)
inductive FlK : List (Key × V) → List (PyData × PyData) → Prop
  | nil : FlK [] []
  | cons {k : Key} {v : V} {d : PyData} {vs : List (Key × V)} {ps : List (PyData × PyData)} : Fl v d → FlK vs ps → FlK ((k, v) :: vs) ((kPy k, d) :: ps)
/-- a thing without dicts, or a flat dict -/
inductive It (K : PySem.W.Frag) (H : Hp) : V → PyData → Prop
  | pl {v : V} {d : PyData} : Dp K H v d → d.hasDict = false → It K H v d
  | dk {a : Addr} {vs : List (Key × V)} {ps : List (PyData × PyData)} : H a = some (.dK vs) → FlK vs ps → It K H (.ref a) (.dict ps)
inductive ItL (K : PySem.W.Frag) (H : Hp) : List V → List PyData → Prop
  | nil : ItL K H [] []
  | cons {v : V} {vs : List V} {d : PyData} {ds : List PyData} : It K H v d → ItL K H vs ds → ItL K H (v :: vs) (d :: ds)
section
variable {X : Cx} {pins : List (Addr × Obj)} {σ : L2.St} {H : Hp} {s : Shared}
end
section
variable {K : PySem.W.Frag} {m : Mem} {Q : D → Mem → Prop}
/-! ### what is shown, with flat dicts in it -/
def D.plv : D → Bool
  | .non => true
  | .int _ => true
  | .str _ => true
  | _ => false
theorem flk_of {F : Hp} : ∀ {vs : List (Key × V)} {ds : List (Key × D)}, vs.map Prod.fst = ds.map Prod.fst → RdL K F (vs.map Prod.snd) (ds.map Prod.snd) → (ds.all fun q => q.2.plv) = true → FlK vs (D.pyK ds)
  | [], [], _, _, _ => by
    simp only [D.pyK]
    exact .nil
  | [], _ :: _, h, _, _ => by cases h
  | _ :: _, [], h, _, _ => by cases h
  | (k1, v) :: vs, (k2, d) :: ds, h, r, f => by
    simp only [List.map_cons, List.cons.injEq] at h
    obtain ⟨rfl, h⟩ := h
    simp only [List.all_cons, Bool.and_eq_true] at f
    cases r with
    | cons r rs =>
      have g := flk_of h rs f.2
      have fv : Fl v (D.py d) := by
        have f1 := f.1
        cases d with
        | non => cases r; simp only [D.py]; exact .non
        | int i => cases r; simp only [D.py]; exact .int i
        | str x => cases r; simp only [D.py]; exact .str x
        | _ => cases f1
      simp only [D.pyK]
      cases k1 <;> exact .cons fv g
def ShI (K : PySem.W.Frag) (m : Mem) (x : D) (d : PyData) : Prop := ∀ (H : Hp) (v : V), MemOk K m H → Rd K (hide m H) v x → It K H v d
def ShL (K : PySem.W.Frag) (m : Mem) (xs : List D) (ds : List PyData) : Prop := ∀ (H : Hp) (vs : List V), MemOk K m H → RdL K (hide m H) vs xs → ItL K H vs ds
theorem ShI.pl {x : D} {d : PyData} (h : Res K m x d) (nd : d.hasDict = false) : ShI K m x d := fun H v M r => .pl (h H v M r) nd
theorem ShI.dic {x : D} {kvs : List (Key × D)} (hx : DctIn m x kvs) (f : (kvs.all fun q => q.2.plv) = true) : ShI K m x (.dict (D.pyK kvs)) := fun H v M r => by
  rcases hx with rfl | ⟨p, rfl, i, hm⟩
  · obtain ⟨p, xs, rfl, e1, e2, e3⟩ := dic_at r
    exact .dk e1 (flk_of e2 e3 f)
  · cases r
    obtain ⟨xs, e1, e2, e3⟩ := dicM_at M hm
    exact .dk e1 (flk_of e2 e3 f)
theorem ShL.nil : ShL K m [] [] := fun H vs M r => by cases r; exact .nil
theorem ShL.cons {x : D} {d : PyData} {xs : List D} {ds : List PyData} (h : ShI K m x d) (h' : ShL K m xs ds) : ShL K m (x :: xs) (d :: ds) := fun H vs M r => by
  cases r with
  | cons a b => exact .cons (h H _ M a) (h' H _ M b)
/-- how far a shown thing goes -/
structure Shx (n B : Nat) (d : PyData) : Prop where
  ok : d.showable = true
  dp : d.depth ≤ n
  le : d.shown.length ≤ B
theorem Shw.x {n B : Nat} {d : PyData} (h : Shw n B d) : Shx n B d := ⟨h.ok, h.dp, h.le⟩
end
section
variable {K : PySem.W.Frag} {m : Mem} {Q : D → Mem → Prop} {p q : Str}
/-- data, once cells, of which nothing else is looked at any more -/
theorem ew_freeze {δ : List (Option D)} {te : TE} (h : EW K te δ m fun x m1 => ∃ m0 r d, m1.Perm (m0 ++ r) ∧ (∀ (H : Hp) (v : V), MemOk K (m0 ++ r) H → Rd K (hide (m0 ++ r) H) v x → Rd K (hide m0 H) v d) ∧ Q d m0) : EW K te δ m Q := fun σ H s M QQ k =>
  h σ H s M _ fun x m1 v H1 ⟨m0, r, d, p, f, w⟩ s1 M1 r1 => by
    have M1 := M1.perm p
    rw [hide_perm p] at s1 r1
    obtain ⟨M2, sb⟩ := MemOk.dropG r M1
    exact k d m0 v H1 w (s1.trans sb) M2 (f H1 v M1 r1)
end
end DL

set_option Elab.async false
set_option linter.all false
set_option maxRecDepth 100000
set_option maxHeartbeats 1000000
set_option autoImplicit false
/-! Several except clauses, each with the same name for what is caught. -/
namespace DL
open PySem PySem.Spec PyProof.Rows L2
abbrev Clause : Type := Value × (Addr → Value → Option Addr → TS)
inductive Clauses (X : Cx) (n : Str) : List ExceptHandler → List Clause → Prop
  | nil : Clauses X n [] []
  | cons {x : Str} {c : Value} {ts : Addr → Value → Option Addr → TS} {st : Stmt} {sts : List Stmt} {p1 p2 : Pos} {hs : List ExceptHandler} {r : List Clause} (nm : Names X x c)
      (go : ∀ (a : Addr) (o : Obj) (cls : Value) (d : Option Addr) (pn : List (Addr × Obj)), Zc cls d o → (∃ vs, o.data = .fields vs) → ∃ t, PSs (X.suite a ((a, o) :: pn)) (st :: sts) t ∧ t = ts a cls d) (tl : Clauses X n hs r) :
      Clauses X n (.ExceptHandler (some (.Name x p1)) (some n) (st :: sts) p2 :: hs) ((c, ts) :: r)
section
variable {X : Cx} {n : Str} {i : Nat} {out : WX} {body : List Stmt} {c0 : ExceptHandler} {cr : List ExceptHandler} {l : List Clause} {at_ : Pos} {tb : WX → TS}
end
section
variable {K : PySem.W.Frag} {δ : List (Option D)} {m : Mem} {P : Ps} {tb : WX → TS} {i : Nat}
end
end DL

set_option Elab.async false
set_option linter.all false
set_option maxRecDepth 100000
set_option maxHeartbeats 1000000
set_option autoImplicit false
/-! enumerate(t), t a tuple. -/
namespace DL
open PySem PySem.Spec PyProof.Rows L2
section
variable {prog : Program} {w : World} {A : Around} {E : Value → Shared → Prop} {s : Shared}
end
section
variable {K : PySem.W.Frag} {δ : List (Option D)} {m : Mem}
end
section
variable {K : PySem.W.Frag} {m : Mem} {Q : D → Mem → Prop}
end
end DL

set_option Elab.async false
set_option linter.all false
set_option maxRecDepth 100000
set_option maxHeartbeats 1000000
set_option autoImplicit false
/-! enumerate(xs), xs a list that is data or a cell; a dict told by what was lent lists; lists of cells turned round. -/
namespace DL
open PySem PySem.Spec PyProof.Rows L2
section
variable {K : PySem.W.Frag} {δ δ' : List (Option D)} {m m0 m1 r : Mem} {Q : D → Mem → Prop} {te tl : TE} {P : Ps} {t : TS} {tt : TT} {g : TG} {ta : TA}
end
/-- a thing that may be shown, and whose text may be shown -/
structure TwQ (n B : Nat) (d : PyData) : Prop where
  shw : Shw n B d
  ok : PyData.strOk d.shown = true
theorem twQ_bl (b : Bool) : TwQ 0 300 (D.bl b).py := by
  rw [show (D.bl b).py = .bool b by simp only [D.py]]
  exact ⟨⟨by simp only [PyData.showable], by simp only [PyData.hasDict], by simp only [PyData.depth]; omega, by simp only [PyData.shown]; cases b <;> decide⟩, by simp only [PyData.shown]; cases b <;> decide +kernel⟩
theorem sOkJ {sep : Str} (hs : PyData.strOk sep = true) : ∀ ts : List Str, (∀ t ∈ ts, PyData.strOk t = true) → PyData.strOk (Str.join sep ts) = true
  | [], _ => by
    rw [sOk_iff]; intro c hc; have hc : c ∈ ([] : List Nat) := hc
    cases hc
  | [x], h => h x List.mem_cons_self
  | x :: y :: r, h => by
    show PyData.strOk (x ++ sep ++ Str.join sep (y :: r)) = true
    exact sOk_app (sOk_app (h x List.mem_cons_self) hs) (sOkJ hs (y :: r) fun t ht => h t (List.mem_cons_of_mem _ ht))
theorem sOkT {xs : List PyData} (h : ∀ x ∈ xs, PyData.strOk x.shown = true) : PyData.strOk (PyData.tuple xs).shown = true := by
  simp only [PyData.shown, tupleText]
  refine sOk_app (sOk_app (sOk_of _) (sOkJ (sOk_of _) _ fun t ht => ?_)) (by split <;> exact sOk_of _)
  rw [shownAll_map] at ht
  obtain ⟨x, hx, rfl⟩ := List.mem_map.mp ht
  exact h x hx
theorem TwQ.up {n n' B B' : Nat} {d : PyData} (h : TwQ n B d) (a : n ≤ n') (b : B ≤ B') : TwQ n' B' d := ⟨h.shw.up a b, h.ok⟩
theorem TwQ.list {n B N : Nat} {xs : List D} (h : ∀ x ∈ xs, TwQ n B x.py) (hN : xs.length ≤ N) : TwQ (n + 1) (N * (B + 2) + 3) (D.lst xs).py := by
  rw [show (D.lst xs).py = .list (xs.map D.py) by simp only [D.py]; rw [pyL_map]]
  have k : ∀ y ∈ xs.map D.py, TwQ n B y := fun y hy => by
    obtain ⟨x, hx, rfl⟩ := List.mem_map.mp hy
    exact h x hx
  refine ⟨(Shw.list fun y hy => (k y hy).shw).up (Nat.le_refl _) ?_, sOk_list fun y hy => (k y hy).ok⟩
  rw [List.length_map]
  exact Nat.add_le_add_right (Nat.mul_le_mul_right _ hN) _
theorem TwQ.tup {n B N : Nat} {xs : List D} (h : ∀ x ∈ xs, TwQ n B x.py) (hN : xs.length ≤ N) : TwQ (n + 1) (N * (B + 2) + 3) (D.tup xs).py := by
  rw [show (D.tup xs).py = .tuple (xs.map D.py) by simp only [D.py]; rw [pyL_map]]
  have k : ∀ y ∈ xs.map D.py, TwQ n B y := fun y hy => by
    obtain ⟨x, hx, rfl⟩ := List.mem_map.mp hy
    exact h x hx
  refine ⟨(Shw.tuple fun y hy => (k y hy).shw).up (Nat.le_refl _) ?_, sOkT fun y hy => (k y hy).ok⟩
  rw [List.length_map]
  exact Nat.add_le_add_right (Nat.mul_le_mul_right _ hN) _
end DL

set_option Elab.async false
set_option linter.all false
set_option maxRecDepth 100000
set_option maxHeartbeats 1000000
set_option autoImplicit false
/-! things that are written: asked, called and made as cells. -/
namespace DL
open PySem PySem.Spec PyProof.Rows L2
section
variable {X : Cx} {k n : Nat} {f C : Addr} {ps ks : List Str} {Pf : FS} {pos : Pos} {e fe : Expr} {es : List Expr} {kws : List Keyword} {tf : TE} {t tk : TA} {idx : List Nat} {dd : List D} (K : PySem.W.Frag) (hK : X.K = K)
end
/-! ### things as cells -/
section
variable {K : PySem.W.Frag} {δ : List (Option D)} {m : Mem} {Q : D → Mem → Prop} {te ta tf : TE} {t tk : TA} {Pf : FS} {E : XK} {n l : Nat} {idx : List Nat} {dd : List D} {C : Addr} {nm : Str}
end
section
variable {K : PySem.W.Frag} {δ : List (Option D)} {m : Mem} {te ta : TE}
end
end DL

set_option Elab.async false
set_option linter.all false
set_option maxRecDepth 100000
set_option maxHeartbeats 1000000
set_option autoImplicit false
/-! fields as targets among others: self.a, self.b = .. -/
namespace DL
open PySem PySem.Spec PyProof.Rows L2
section
variable {K : PySem.W.Frag} {δ : List (Option D)} {m : Mem} {ta : TE} {Q : D → Mem → Prop}
end
end DL

set_option Elab.async false
set_option linter.all false
set_option maxRecDepth 100000
set_option maxHeartbeats 1000000
set_option autoImplicit false
/-! defs that say super().m(..) as their first row, or return it. -/
namespace DL
open PySem PySem.Spec PyProof.Rows L2
/-! ### the scope, the context -/
structure FnScopeS (N ps : List Str) (sc : Scope) : Prop where
  fun_ : sc.kind = .function
  noco : sc.isCoroutine = false
  nogen : sc.isGenerator = false
  uniq : N.Nodup
  first : N.take ps.length = ps
  locs : ∀ x ∈ ps, sc.names.lookup x = some .local
  uncelled : ∀ y ∈ sc.names, y.2 ≠ .cell
  lone : ∀ y ∈ sc.names, y.2 = .free → y.1 = "__class__"
  says : sc.names.lookup ("super" : Str) = some .globalImplicit
  knows : sc.names.lookup ("__class__" : Str) = some .free
section
variable {T : CXT} {P : Program} {w : World} {K : PySem.W.Frag} {mg : Str → Option Value} {base : Heap} {N ps : List Str} {q : Str} {sc : Scope} {f cc D : Addr} {cd cl : Value} {cld : Option Addr} {csl : Array (Option Value)} {A : Around} {up : List Env} {s : Shared} {H : Hp} {E : XK}
end
/-! ### rows in the activation itself -/
structure PEA (X : Cx) (all : List Stmt) (e : Expr) (t : TE) : Prop where
  go : ∀ (pins : List (Addr × Obj)) (s : Shared) (σ : L2.St) (H : Hp) (Q : VK), Inv X pins σ H s → t σ H Q → _root_.PySem.wpAt (model X.prog X.w) X.A (.func all X.env) (eval e X.env) (EP X pins σ Q) X.xe s
structure PSA (X : Cx) (all st : List Stmt) (t : TS) : Prop where
  go : ∀ (pins : List (Addr × Obj)) (s : Shared) (σ : L2.St) (H : Hp) (D : Ends), Inv X pins σ H s → t D σ H → _root_.PySem.wpAt (model X.prog X.w) X.A (.func all X.env) (execs st X.env) (SP X pins D) X.xe s
section
variable {X : Cx} {all rest : List Stmt} {e : Expr} {te : TE} {u : TS} {pos : Pos}
end
def fileIn (K : PySem.W.Frag) (cd : Value) (name : Str) : Bool := match cd with
  | .ref c => (match K.lookup c with
    | some ⟨_, _, .fields vs, _⟩ => (match vs[2]? with | some (Value.str n _) => name == n | _ => false)
    | _ => false)
  | _ => false
/-- what a body that says super() knows -/
structure SupX (X : Cx) (D : Addr) : Prop where
  says : X.env.kindOf "super" = some .globalImplicit
  knows : X.env.kindOf "__class__" = some .free
  self : ∃ f oc od fd osl ar, X.env.func = some f ∧ X.K.lookup f = some ⟨oc, od, .func fd, osl⟩ ∧ (fd.params.posonlyargs ++ fd.params.args).head? = some ar ∧ X.N[0]? = some ar.arg ∧ X.env.kindOf ar.arg = some .local
  code : ∃ c, X.env.code = .ref c ∧ fileIn X.K (.ref c) X.prog.main.file = true
  cell : ∃ cc a b d, X.env.cells.lookup ("__class__" : Str) = some cc ∧ X.K.lookup cc = some ⟨a, b, .cell (some (.ref D)), d⟩
  blt : X.mg "super" = none
  top : (X.prog.main.scope.names.lookup ("super" : Str)).isSome = false
  cls : PySem.W.isClsIn X.K D = true
  any : PySem.W.nsIn X.K cStatics "thirdparty.any" = some none
structure SupM (K : PySem.W.Frag) (C D : Addr) (m : Str) (f : Addr) : Prop where
  sub : PySem.W.mroIn K C (.ref D) = some true
  at_ : PySem.W.ks_superIn K C D m = some (some (.ref f))
  ty : PySem.W.typeIn K (.ref f) = some (.type "function")
  fi : PySem.W.fnIn K f = true
section
variable {X : Cx} {all : List Stmt} {D C a dx : Addr} {fs : List (Str × V)} {pins : List (Addr × Obj)} {σ : L2.St} {H : Hp} {s : Shared}
end
section
variable {X : Cx} {all : List Stmt} {D C f : Addr} {fd : FuncData} {ps : List Str} {sp : Sp} {W : WX} {k : Nat} {p0 p1 apos pos : Pos} {nm : Str} {e : Expr} {es : List Expr} {t : TA}
end
section
variable {K : PySem.W.Frag} {δ : List (Option D)} {m : Mem} {Q : D → Mem → Prop} {R : XS} {t : TA} {Pf : FX} {C p : Addr} {fs : List (Str × D)}
end
section
variable {P : Program} {w : World} {K : PySem.W.Frag} {mg : Str → Option Value} {base : Heap} {k : Nat} {f D : Addr} {ps N : List Str} {Pf : FX} {x qual name : Str} {st : Stmt}
end
/-! ### how they stand behind the top -/
section
variable {K : PySem.W.Frag} {x qual name : Str} {st : Stmt} {f T c cc D : Addr} {ps ks : List Str} {oc kV dc pm ct oT a1 : Value} {od an dT a2 : Option Addr} {sl sT a3 : Array (Option Value)} {its : Array Value} {nT n : Nat} {idx : List Nat} {dd : List DL.D} {dvs : List V}
end
/-! ### isinstance of a thing that is a cell, an own class above its own -/
section
variable {K : PySem.W.Frag} {m : Mem} {Q : DL.D → Mem → Prop}
end
end DL

set_option Elab.async false
set_option linter.all false
set_option maxRecDepth 100000
set_option maxHeartbeats 1000000
set_option autoImplicit false
/-! things of one class or another; calls of things that raise; things made that stay cells, or raise. -/
namespace DL
open PySem PySem.Spec PyProof.Rows L2
section
variable {K : PySem.W.Frag} {δ : List (Option D)} {m : Mem} {Q : D → Mem → Prop} {R : XS} {t u : TE} {tx ux : WX → TE}
end
section
variable {X : Cx} {k n : Nat} {f C : Addr} {ps ks : List Str} {Pf : FX} {W : WX} {pos : Pos} {e fe : Expr} {es : List Expr} {kws : List Keyword} {tf : TE} {t tk : TA} {idx : List Nat} {dd : List D} (K : PySem.W.Frag) (hK : X.K = K)
end
section
variable {K : PySem.W.Frag} {δ : List (Option D)} {m : Mem} {Q : D → Mem → Prop} {R : XS} {tf : TE} {t tk : TA} {Pf : FX} {n l : Nat} {idx : List Nat} {dd : List D} {C : Addr}
end
end DL

set_option Elab.async false
set_option linter.all false
set_option maxRecDepth 100000
set_option maxHeartbeats 2000000
set_option autoImplicit false
/-! == and != of a thing of an own class and something else, either way round. -/
namespace DL
open PySem PySem.Spec PyProof.Rows L2
/-! ### what a builtin says of a thing of an own class -/
/-- T.__eq__ (or T.__ne__) declines -/
def Waives (prog : Program) (w : World) (A : Around) (E : Value → Shared → Prop) (id : String) (u v : Value) (s : Shared) : Prop := ∀ Q : Value → Shared → Prop, Q .notImplemented s → wpAny (model prog w) A (call (.builtin id) [u, v]) Q E s
section
variable {prog : Program} {w : World} {A : Around} {E : Value → Shared → Prop} {s : Shared} {K : PySem.W.Frag} {b C : Addr} {ob : Obj} {od : Option Obj}
theorem gv_none_eq (l : Addr) : Gives (Builtin.«NoneType.__eq__» ⟨[.none, .ref l], []⟩) (.val Value.notImplemented) := .of_wp fun M A E s Q h => by
  obtain ⟨hp, g, d, tk, os⟩ := s
  wp_walk
  exact ⟨_, rfl, h⟩
theorem gv_none_ne (l : Addr) : Gives (Builtin.«NoneType.__ne__» ⟨[.none, .ref l], []⟩) (.val Value.notImplemented) := .of_wp fun M A E s Q h => by
  obtain ⟨hp, g, d, tk, os⟩ := s
  wp_walk
  exact ⟨_, rfl, h⟩
theorem waive_none_eq : Waives prog w A E "NoneType.__eq__" .none (.ref b) s := fun Q q => call_gives F.slot_NoneType_eq rfl F.entry_NoneType_eq (F.args_NoneType_eq_2 _ _) (gv_none_eq b) q
theorem waive_none_ne : Waives prog w A E "NoneType.__ne__" .none (.ref b) s := fun Q q => call_gives F.slot_NoneType_ne rfl F.entry_NoneType_ne (F.args_NoneType_ne_2 _ _) (gv_none_ne b) q
theorem waive_list_eq {u : Value} (hT : s.TypeIs u "list") (inst : PySem.W.Looks (model prog w) s.heap (isInstance (.ref b) (.type "list")) false) : Waives prog w A E "list.__eq__" u (.ref b) s := fun Q q => by
  refine wpAny_call_entry F.slot_list_eq hT F.entry_list_eq ?_ (F.args_list_eq_2 _ _)
  obtain ⟨hp, g, d, tk, os⟩ := s
  repeat (first | with_reducible refine PySem.W.Looks.at inst ?_ | wp_step)
  all_goals exact ⟨_, rfl, q⟩
theorem waive_list_ne {u : Value} (hT : s.TypeIs u "list") (inst : PySem.W.Looks (model prog w) s.heap (isInstance (.ref b) (.type "list")) false) : Waives prog w A E "list.__ne__" u (.ref b) s := fun Q q => by
  refine wpAny_call_entry F.slot_list_ne hT F.entry_list_ne ?_ (F.args_list_ne_2 _ _)
  obtain ⟨hp, g, d, tk, os⟩ := s
  repeat (first | with_reducible refine PySem.W.Looks.at inst ?_ | wp_step)
  all_goals exact ⟨_, rfl, q⟩
theorem waive_tuple_eq {u : Value} (hT : s.TypeIs u "tuple") (inst : PySem.W.Looks (model prog w) s.heap (isInstance (.ref b) (.type "tuple")) false) : Waives prog w A E "tuple.__eq__" u (.ref b) s := fun Q q => by
  refine wpAny_call_entry F.slot_tuple_eq hT F.entry_tuple_eq ?_ (F.args_tuple_eq_2 _ _)
  obtain ⟨hp, g, d, tk, os⟩ := s
  repeat (first | with_reducible refine PySem.W.Looks.at inst ?_ | wp_step)
  all_goals exact ⟨_, rfl, q⟩
theorem waive_tuple_ne {u : Value} (hT : s.TypeIs u "tuple") (inst : PySem.W.Looks (model prog w) s.heap (isInstance (.ref b) (.type "tuple")) false) : Waives prog w A E "tuple.__ne__" u (.ref b) s := fun Q q => by
  refine wpAny_call_entry F.slot_tuple_ne hT F.entry_tuple_ne ?_ (F.args_tuple_ne_2 _ _)
  obtain ⟨hp, g, d, tk, os⟩ := s
  repeat (first | with_reducible refine PySem.W.Looks.at inst ?_ | wp_step)
  all_goals exact ⟨_, rfl, q⟩
theorem waive_dict_eq {u : Value} (hT : s.TypeIs u "dict") (inst : PySem.W.Looks (model prog w) s.heap (isInstance (.ref b) (.type "dict")) false) : Waives prog w A E "dict.__eq__" u (.ref b) s := fun Q q => by
  refine wpAny_call_entry F.slot_dict_eq hT F.entry_dict_eq ?_ (F.args_dict_eq_2 _ _)
  obtain ⟨hp, g, d, tk, os⟩ := s
  repeat (first | with_reducible refine PySem.W.Looks.at inst ?_ | wp_step)
  all_goals exact ⟨_, rfl, q⟩
theorem waive_dict_ne {u : Value} (hT : s.TypeIs u "dict") (inst : PySem.W.Looks (model prog w) s.heap (isInstance (.ref b) (.type "dict")) false) : Waives prog w A E "dict.__ne__" u (.ref b) s := fun Q q => by
  refine wpAny_call_entry F.slot_dict_ne hT F.entry_dict_ne ?_ (F.args_dict_ne_2 _ _)
  obtain ⟨hp, g, d, tk, os⟩ := s
  repeat (first | with_reducible refine PySem.W.Looks.at inst ?_ | wp_step)
  all_goals exact ⟨_, rfl, q⟩
theorem waive_str_eq (x : Str) (t : Tok) {dx : Addr} (hb : s.heap.get? b = some (PySem.W.instObj C dx)) : Waives prog w A E "str.__eq__" (.str x t) (.ref b) s := fun Q q => by
  refine wpAny_call_entry F.slot_str_eq rfl F.entry_str_eq ?_ (F.args_str_eq_2 _ _)
  obtain ⟨hp, g, d, tk, os⟩ := s
  wp_walk using PySem.AutoSeq1.wpAny_loadPart' hb
  all_goals exact ⟨_, rfl, q⟩
theorem waive_str_ne (x : Str) (t : Tok) {dx : Addr} (hb : s.heap.get? b = some (PySem.W.instObj C dx)) : Waives prog w A E "str.__ne__" (.str x t) (.ref b) s := fun Q q => by
  refine wpAny_call_entry F.slot_str_ne rfl F.entry_str_ne ?_ (F.args_str_ne_2 _ _)
  obtain ⟨hp, g, d, tk, os⟩ := s
  wp_walk using PySem.AutoSeq1.wpAny_loadPart' hb
  all_goals exact ⟨_, rfl, q⟩
theorem waive_int_eq (x : Int) (t : Tok) {dx : Addr} (hb : s.heap.get? b = some (PySem.W.instObj C dx)) : Waives prog w A E "int.__eq__" (.int x t) (.ref b) s := fun Q q => by
  refine wpAny_call_entry F.slot_int_eq rfl F.entry_int_eq ?_ (F.args_int_eq_2 _ _)
  obtain ⟨hp, g, d, tk, os⟩ := s
  wp_walk using PySem.AutoSeq1.wpAny_loadPart' hb
  all_goals exact ⟨_, rfl, q⟩
theorem waive_int_ne (x : Int) (t : Tok) {dx : Addr} (hb : s.heap.get? b = some (PySem.W.instObj C dx)) : Waives prog w A E "int.__ne__" (.int x t) (.ref b) s := fun Q q => by
  refine wpAny_call_entry F.slot_int_ne rfl F.entry_int_ne ?_ (F.args_int_ne_2 _ _)
  obtain ⟨hp, g, d, tk, os⟩ := s
  wp_walk using PySem.AutoSeq1.wpAny_loadPart' hb
  all_goals exact ⟨_, rfl, q⟩
end
/-! ### the kinds of other things -/
def oddT : List String := ["list", "tuple", "dict", "str", "int", "NoneType"]
/-- an own class that is none of the builtin kinds, and none of them is of it -/
def OddC (K : PySem.W.Frag) (C : Addr) : Prop := (oddT.all fun T => (PySem.W.subIn K (.ref C) (.type T) == some false) && (PySem.W.subIn K (.type T) (.ref C) == some false)) = true
theorem OddC.at_ {K : PySem.W.Frag} {C : Addr} (h : OddC K C) {T : String} (m : T ∈ oddT) : PySem.W.subIn K (.ref C) (.type T) = some false ∧ PySem.W.subIn K (.type T) (.ref C) = some false := by
  have := List.all_eq_true.mp h T m
  rw [Bool.and_eq_true] at this
  exact ⟨beq_iff_eq.mp this.1, beq_iff_eq.mp this.2⟩
inductive OddV (K : PySem.W.Frag) (H : Hp) : V → Prop
  | non : OddV K H .non
  | int (i : Int) : OddV K H (.int i)
  | str (x : Str) : OddV K H (.str x)
  | lst {p : Addr} {xs : List V} : SqL K H p xs → OddV K H (.ref p)
  | tup {p : Addr} {xs : List V} : SqT K H p xs → OddV K H (.ref p)
  | dic {p : Addr} {kvs : List (Key × V)} : L2.Rd H p (.dK kvs) → OddV K H (.ref p)
structure Odd (X : Cx) (s : Shared) (C b : Addr) (u : Value) where
  T : String
  ide : String
  idn : String
  ty : s.TypeIs u T
  eq : Slot T (cmpInfo .Eq).2.1 ide
  ne : Slot T (cmpInfo .NotEq).2.1 idn
  mem : T ∈ oddT
  weq : ∀ A E, Waives X.prog X.w A E ide u (.ref b) s
  wne : ∀ A E, Waives X.prog X.w A E idn u (.ref b) s
section
variable {X : Cx} {pins : List (Addr × Obj)} {σ : L2.St} {H : Hp} {s : Shared} {C b dx : Addr} {od : Option Obj}
theorem odd_of (I : Inv X pins σ H s) (hb : s.heap.get? b = some (PySem.W.instObj C dx)) (O : OddC X.K C) (tb : PySem.W.Looks (model X.prog X.w) s.heap (typeOf (.ref b)) (.ref C)) {x : V} {u : Value} (o : OddV X.K H x) (r : RelV x u) : Nonempty (Odd X s C b u) := by
  have inst : ∀ T, T ∈ oddT → PySem.W.Looks (model X.prog X.w) s.heap (isInstance (.ref b) (.type T)) false := fun T m => tb.andThen (PySem.W.looks_subIn I.kIn (O.at_ m).1)
  cases o with
  | non =>
    cases r
    exact ⟨⟨"NoneType", _, _, rfl, F.slot_NoneType_eq, F.slot_NoneType_ne, by simp [oddT], fun _ _ => waive_none_eq, fun _ _ => waive_none_ne⟩⟩
  | int i =>
    obtain ⟨t, rfl⟩ := r
    exact ⟨⟨"int", _, _, rfl, F.slot_int_eq, F.slot_int_ne, by simp [oddT], fun _ _ => waive_int_eq i t hb, fun _ _ => waive_int_ne i t hb⟩⟩
  | str z =>
    obtain ⟨t, rfl⟩ := r
    exact ⟨⟨"str", _, _, rfl, F.slot_str_eq, F.slot_str_ne, by simp [oddT], fun _ _ => waive_str_eq z t hb, fun _ _ => waive_str_ne z t hb⟩⟩
  | lst e =>
    cases r
    obtain ⟨its, _, ⟨o, n, ho, hc, _⟩, _⟩ := I.list e
    have hT : s.TypeIs (.ref _) "list" := ⟨o, ho, hc⟩
    exact ⟨⟨"list", _, _, hT, F.slot_list_eq, F.slot_list_ne, by simp [oddT], fun _ _ => waive_list_eq hT (inst _ (by simp [oddT])), fun _ _ => waive_list_ne hT (inst _ (by simp [oddT]))⟩⟩
  | tup e =>
    cases r
    obtain ⟨its, _, ⟨o, ho, hc, _⟩, _⟩ := I.tuple e
    have hT : s.TypeIs (.ref _) "tuple" := ⟨o, ho, hc⟩
    exact ⟨⟨"tuple", _, _, hT, F.slot_tuple_eq, F.slot_tuple_ne, by simp [oddT], fun _ _ => waive_tuple_eq hT (inst _ (by simp [oddT])), fun _ _ => waive_tuple_ne hT (inst _ (by simp [oddT]))⟩⟩
  | @dic p kvs e =>
    cases r
    have hT : s.TypeIs (.ref p) "dict" := dict_typeIs I (y := kV (.inl 0)) (.inl ⟨kvs, .inl 0, e, rfl, rfl⟩)
    exact ⟨⟨"dict", _, _, hT, F.slot_dict_eq, F.slot_dict_ne, by simp [oddT], fun _ _ => waive_dict_eq hT (inst _ (by simp [oddT])), fun _ _ => waive_dict_ne hT (inst _ (by simp [oddT]))⟩⟩
end
/-! ### compared -/
/-- an own thing and another kind of thing; way = true: the own one stands to the left -/
def rOwnOdd (K : PySem.W.Frag) (way neg : Bool) (C : Addr) (sp : Sp) : R2 := fun x y H Q => ∃ (b dy : Addr) (gs : List (Str × V)) (z : V), (if way = true then x = .ref b ∧ y = z else x = z ∧ y = .ref b) ∧ H b = some (.ins C dy gs) ∧ OddV K H z ∧
  sp [.ref b, z] H (fun v H' => ∃ r, v = .bl r ∧ Q (.bl (if neg = true then !r else r)) H') E0
section
variable {X : Cx} {k : Nat} {f C : Addr} {ps : List Str} {Pf : FS} {pins : List (Addr × Obj)} {σ : L2.St} {H : Hp} {s : Shared} {Q : VK}
/-- the own == is called -/
theorem odd_run {neg : Bool} (D : Def X.prog X.w X.K X.mg X.base k f ps Pf) (hr : Room k X.A) (I : Inv X pins σ H s) {a : Addr} {z : V} {u : Value} (rz : RelV z u)
    (q : spOf X.K Pf [.ref a, z] H (fun v H' => ∃ r, v = .bl r ∧ Q (.bl (if neg = true then !r else r)) H') E0) (B : Around) (hB : X.A.in1 = B ∧ Room (k + 1) X.A ∨ X.A = B) :
    wpAny (model X.prog X.w) B (call (.ref f) [.ref a, u]) (fun v s' => ∃ c, v = .bool c ∧ EP X pins σ Q (.bool (if neg = true then !c else c)) s') X.xe s := by
  obtain ⟨fd, F, hb, _⟩ := D
  have hl := F.len _ _ _ _ q
  have r2 : Vals [V.ref a, z] [Value.ref a, u] := .cons rfl (.cons rz .nil)
  rcases hB with ⟨rfl, hr1⟩ | rfl
  · refine wpAny_call (codeAny_mono (F.run X.A.in1 X.stack s H ⟨[.ref a, u], []⟩ [.ref a, u] [.ref a, z] _ E0 hr1.in1 I.env0.in1 (by
      have := hb s [.ref a, u] I.kIn (by simpa using hl)
      simpa using this) r2 q) fun r s' hq => ?_)
    cases r with
    | error e => exact hq.elim
    | ok fl =>
      cases fl with
      | ret w =>
        obtain ⟨z, H', I', rz, r, ez, q2⟩ := I.after hq
        subst ez
        cases rz
        exact ⟨r, rfl, .bl _, H', I', rfl, q2⟩
      | next => exact False.elim hq
      | brk => exact False.elim hq
      | cont => exact False.elim hq
  · refine wpAny_call (codeAny_mono (F.run X.A X.stack s H ⟨[.ref a, u], []⟩ [.ref a, u] [.ref a, z] _ E0 hr I.env0 (by
      have := hb s [.ref a, u] I.kIn (by simpa using hl)
      simpa using this) r2 q) fun r s' hq => ?_)
    cases r with
    | error e => exact hq.elim
    | ok fl =>
      cases fl with
      | ret w =>
        obtain ⟨z, H', I', rz, r, ez, q2⟩ := I.after hq
        subst ez
        cases rz
        exact ⟨r, rfl, .bl _, H', I', rfl, q2⟩
      | next => exact False.elim hq
      | brk => exact False.elim hq
      | cont => exact False.elim hq
/-- the own == is tried -/
theorem odd_try (hs : PySem.W.findIn X.K (.ref C) "__eq__" = some (some (.ref f)) ∧ PySem.W.isFn X.K (.ref f) = true) (D : Def X.prog X.w X.K X.mg X.base k f ps Pf) (hr : Room k X.A) (I : Inv X pins σ H s) {a dx : Addr} {fs : List (Str × V)} (ha : H a = some (.ins C dx fs)) {z : V} {u : Value} (rz : RelV z u)
    (q : spOf X.K Pf [.ref a, z] H (fun v H' => ∃ r, v = .bl r ∧ Q (.bl r) H') E0) : wpAny (model X.prog X.w) X.A (tryCompare (.ref a) "__eq__" u) (fun r s' => ∃ v, r = some v ∧ EP X pins σ Q v s') X.xe s := by
  obtain ⟨mA, J, _⟩ := ins_get I.hok ha
  obtain ⟨od, J, _⟩ := J.look
  unfold tryCompare
  refine wpAny_bind (PySem.W.ifBound_K I.kIn J hs.1 hs.2 (wpAny_mono (odd_run (neg := false) (Q := Q) D hr I rz q X.A (.inr rfl)) (fun v s' hv => ?_) fun _ _ e => e))
  obtain ⟨c, rfl, hq⟩ := hv
  exact wpAny_pure ⟨_, rfl, hq⟩
theorem odd_tryN (hs : PySem.W.findIn X.K (.ref C) "__eq__" = some (some (.ref f)) ∧ PySem.W.isFn X.K (.ref f) = true) (N : NeOwn X.K C) (D : Def X.prog X.w X.K X.mg X.base k f ps Pf) (hr : Room (k + 1) X.A) (hr0 : Room k X.A) (I : Inv X pins σ H s) {a dx : Addr} {fs : List (Str × V)} (ha : H a = some (.ins C dx fs)) {z : V} {u : Value} (rz : RelV z u)
    (q : spOf X.K Pf [.ref a, z] H (fun v H' => ∃ r, v = .bl r ∧ Q (.bl (!r)) H') E0) : wpAny (model X.prog X.w) X.A (tryCompare (.ref a) "__ne__" u) (fun r s' => ∃ v, r = some v ∧ EP X pins σ Q v s') X.xe s := by
  obtain ⟨mA, J, _⟩ := ins_get I.hok ha
  obtain ⟨od, J, _⟩ := J.look
  have run := odd_run (neg := true) (Q := Q) D hr0 I rz q X.A.in1 (.inl ⟨rfl, hr⟩)
  have body : wpAny (model X.prog X.w) X.A.in1 (Builtin.«object.__ne__» ⟨[.ref a, u], []⟩) (fun fin s' => ∃ b, fin = .done (.ret (.bool b)) ∧ EP X pins σ Q (.bool b) s') X.xe s := by
    have hu1 : X.A.in1.units < cLine := hr.in1.units0
    have kin := I.kIn
    obtain ⟨hp, g, d, t, os⟩ := s
    unfold Builtin.«object.__ne__»
    repeat (first
      | with_reducible refine wpAny_cRoomFor hu1 ?_
      | (refine wpAny_bind (m := callSpecialIfBound? (.ref a) (Str.ofString "__eq__") [u])
          (PySem.W.ifBound_K kin J hs.1 hs.2 (wpAny_mono run (fun r s' hr => by
            obtain ⟨c, rfl, hq⟩ := hr
            have fin : ∃ b, Fin.done (.ret (.bool (!c))) = .done (.ret (.bool b)) ∧ EP X pins σ Q (.bool b) s' := ⟨!c, rfl, hq⟩
            repeat (first | exact fin | exact wpAny_pure fin | exact wpAny_truthy_bool fin | (refine wpAny_bind (m := truthy (.bool _)) (wpAny_truthy_bool ?_)) | wp_step)) fun _ _ e => e)))
      | wp_step)
  simp only [tryCompare]
  refine wpAny_bind (ifBound_slot (J.type.andThen (PySem.W.looks_findIn I.kIn N.ne)) (PySem.F.cmp_object.ne.bind _) (wpAny_call (codeAny_call_builtin PySem.F.cmp_object.ne.plain PySem.F.cmpEntry_ne
    (PySem.W.check_slot PySem.F.cmpKind_ne PySem.F.cmpSplit_ne (J.type.andThen (PySem.W.looks_mroIn I.kIn N.mro)) (PySem.F.cmpArgs_ne _ _) (wpAny_mono body (fun fin s' hv => ?_) fun _ _ e => e)))))
  obtain ⟨b, rfl, hq⟩ := hv
  first | exact wpAny_pure ⟨_, rfl, hq⟩ | exact wpAny_pure (wpAny_pure ⟨_, rfl, hq⟩) | exact ⟨b, rfl, hq⟩
theorem looks_ty {M : Model} {u : Value} {T : String} (h : s.TypeIs u T) : PySem.W.Looks M s.heap (typeOf u) (.type T) := by
  cases u with
  | ref a =>
    obtain ⟨o, ho, hc⟩ := h
    exact hc ▸ (PySem.W.Looks.ld ho).andThen .now
  | _ => exact PySem.W.Looks.of_pure h
theorem odd_left {op : CmpOp} (hop : op = .Eq ∨ op = .NotEq) (hu : X.A.units < cLine) (I : Inv X pins σ H s) (O : OddC X.K C) {a dx : Addr} {fs : List (Str × V)} (ha : H a = some (.ins C dx fs)) {u : Value} (o : Odd X s C a u) {P : Value → Shared → Prop}
    (h : wpAny (model X.prog X.w) X.A (tryCompare (.ref a) (cmpInfo op).2.1 u) (fun r s' => ∃ v, r = some v ∧ P v s') X.xe s) : wpAny (model X.prog X.w) X.A (richCompare op (.ref a) u) P X.xe s := by
  obtain ⟨mA, J, _⟩ := ins_get I.hok ha
  obtain ⟨od, J, _⟩ := J.look
  unfold richCompare
  simp only [oneThing_ref]
  refine wpAny_holding ?_
  refine wpAny_bind (wpAny_cRoomFor hu ?_)
  refine wpAny_bind (J.type.here (wpAny_bind ((looks_ty o.ty).here ?_)))
  rw [show (Value.ref C != Value.type o.T) = true from rfl]
  simp only [if_true]
  refine wpAny_bind ((PySem.W.looks_subIn I.kIn (O.at_ o.mem).2).here ?_)
  simp only [Bool.false_eq_true, if_false]
  refine wpAny_bind (wpAny_mono h (fun r s' hv => ?_) fun _ _ e => e)
  obtain ⟨v, rfl, hq⟩ := hv
  first | exact wpAny_pure hq | exact wpAny_pure (wpAny_pure hq)
theorem odd_rightE (hu : X.A.units < cLine) (I : Inv X pins σ H s) (O : OddC X.K C) {a dx : Addr} {fs : List (Str × V)} (ha : H a = some (.ins C dx fs)) {u : Value} (o : Odd X s C a u) {P : Value → Shared → Prop}
    (h : wpAny (model X.prog X.w) X.A (tryCompare (.ref a) "__eq__" u) (fun r s' => ∃ v, r = some v ∧ P v s') X.xe s) : wpAny (model X.prog X.w) X.A (richCompare .Eq u (.ref a)) P X.xe s := by
  obtain ⟨mA, J, _⟩ := ins_get I.hok ha
  obtain ⟨od, J, _⟩ := J.look
  have h1 := o.eq
  rcases hi : cmpInfo CmpOp.Eq with ⟨sym, f, r⟩
  rw [hi] at h1
  have er : r = "__eq__" := by
    have := congrArg (fun x => x.2.2) hi
    exact this.symm
  subst er
  simp only [richCompare, hi, o.ty.oneThing_none]
  refine wpAny_holding ?_
  refine wpAny_bind (wpAny_cRoomFor hu ?_)
  refine wpAny_bind (wpAny_typeOf o.ty (wpAny_bind (J.type.here ?_)))
  rw [show (Value.type o.T != Value.ref C) = true from rfl]
  simp only [if_true]
  refine wpAny_bind ((PySem.W.looks_subIn I.kIn (O.at_ o.mem).1).here ?_)
  simp only [Bool.false_eq_true, if_false, Bool.not_false, if_true]
  refine wpAny_bind (m := tryCompare u _ (.ref a)) (wpAny_tryCompare_declines o.ty h1 (o.weq _ _ _ ⟨rfl, ?_⟩))
  refine wpAny_bind (wpAny_mono h (fun r s' hv => ?_) fun _ _ e => e)
  obtain ⟨v, rfl, hq⟩ := hv
  first | exact wpAny_pure hq | exact wpAny_pure (wpAny_pure hq)
theorem odd_rightN (hu : X.A.units < cLine) (I : Inv X pins σ H s) (O : OddC X.K C) {a dx : Addr} {fs : List (Str × V)} (ha : H a = some (.ins C dx fs)) {u : Value} (o : Odd X s C a u) {P : Value → Shared → Prop}
    (h : wpAny (model X.prog X.w) X.A (tryCompare (.ref a) "__ne__" u) (fun r s' => ∃ v, r = some v ∧ P v s') X.xe s) : wpAny (model X.prog X.w) X.A (richCompare .NotEq u (.ref a)) P X.xe s := by
  obtain ⟨mA, J, _⟩ := ins_get I.hok ha
  obtain ⟨od, J, _⟩ := J.look
  have h1 := o.ne
  rcases hi : cmpInfo CmpOp.NotEq with ⟨sym, f, r⟩
  rw [hi] at h1
  have er : r = "__ne__" := by
    have := congrArg (fun x => x.2.2) hi
    exact this.symm
  subst er
  simp only [richCompare, hi, o.ty.oneThing_none]
  refine wpAny_holding ?_
  refine wpAny_bind (wpAny_cRoomFor hu ?_)
  refine wpAny_bind (wpAny_typeOf o.ty (wpAny_bind (J.type.here ?_)))
  rw [show (Value.type o.T != Value.ref C) = true from rfl]
  simp only [if_true]
  refine wpAny_bind ((PySem.W.looks_subIn I.kIn (O.at_ o.mem).1).here ?_)
  simp only [Bool.false_eq_true, if_false, Bool.not_false, if_true]
  refine wpAny_bind (m := tryCompare u _ (.ref a)) (wpAny_tryCompare_declines o.ty h1 (o.wne _ _ _ ⟨rfl, ?_⟩))
  refine wpAny_bind (wpAny_mono h (fun r s' hv => ?_) fun _ _ e => e)
  obtain ⟨v, rfl, hq⟩ := hv
  first | exact wpAny_pure hq | exact wpAny_pure (wpAny_pure hq)
theorem op_oddEq {way : Bool} (hs : PySem.W.findIn X.K (.ref C) "__eq__" = some (some (.ref f)) ∧ PySem.W.isFn X.K (.ref f) = true) (O : OddC X.K C) (D : Def X.prog X.w X.K X.mg X.base k f ps Pf) (hr : Room k X.A) : OpR X (compareOp .Eq) (rOwnOdd X.K way false C (spOf X.K Pf)) := by
  intro pins s σ H x y v u Q I rx ry h
  obtain ⟨b, dy, gs, z, e, hb, oz, q⟩ := h
  have J0 := (show ObjOk X.prog X.w H s.heap b (.ins C dy gs) from I.hok b _ hb)
  obtain ⟨mA, J, _⟩ := ins_get I.hok hb
  obtain ⟨od, J, _⟩ := J.look
  cases way with
  | true =>
    obtain ⟨rfl, rfl⟩ := e
    cases rx
    obtain ⟨o⟩ := odd_of I J0.2.2.2.1 O J.type oz ry
    exact odd_left (.inl rfl) hr.units0 I O hb o (odd_try hs D hr I hb ry q)
  | false =>
    obtain ⟨rfl, rfl⟩ := e
    cases ry
    obtain ⟨o⟩ := odd_of I J0.2.2.2.1 O J.type oz rx
    exact odd_rightE hr.units0 I O hb o (odd_try hs D hr I hb rx q)
theorem op_oddNe {way : Bool} (hs : PySem.W.findIn X.K (.ref C) "__eq__" = some (some (.ref f)) ∧ PySem.W.isFn X.K (.ref f) = true) (N : NeOwn X.K C) (O : OddC X.K C) (D : Def X.prog X.w X.K X.mg X.base k f ps Pf) (hr0 : Room k X.A) (hr : Room (k + 1) X.A) : OpR X (compareOp .NotEq) (rOwnOdd X.K way true C (spOf X.K Pf)) := by
  intro pins s σ H x y v u Q I rx ry h
  obtain ⟨b, dy, gs, z, e, hb, oz, q⟩ := h
  have J0 := (show ObjOk X.prog X.w H s.heap b (.ins C dy gs) from I.hok b _ hb)
  obtain ⟨mA, J, _⟩ := ins_get I.hok hb
  obtain ⟨od, J, _⟩ := J.look
  cases way with
  | true =>
    obtain ⟨rfl, rfl⟩ := e
    cases rx
    obtain ⟨o⟩ := odd_of I J0.2.2.2.1 O J.type oz ry
    exact odd_left (.inr rfl) hr.units0 I O hb o (odd_tryN hs N D hr hr0 I hb ry q)
  | false =>
    obtain ⟨rfl, rfl⟩ := e
    cases ry
    obtain ⟨o⟩ := odd_of I J0.2.2.2.1 O J.type oz rx
    exact odd_rightN hr.units0 I O hb o (odd_tryN hs N D hr hr0 I hb rx q)
end
theorem kx_oddEq {X : Cx} {k : Nat} {f C : Addr} {ps : List Str} {Pf : FS} {way : Bool} (K : PySem.W.Frag) (hK : X.K = K) (hs : PySem.W.findIn K (.ref C) "__eq__" = some (some (.ref f)) ∧ PySem.W.isFn K (.ref f) = true) (O : OddC K C) (D : Def X.prog X.w K X.mg X.base k f ps Pf) (hr : Room k X.A) : OpR X (compareOp .Eq) (rOwnOdd K way false C (spOf K Pf)) := by
  subst hK; exact op_oddEq hs O D hr
theorem kx_oddNe {X : Cx} {k : Nat} {f C : Addr} {ps : List Str} {Pf : FS} {way : Bool} (K : PySem.W.Frag) (hK : X.K = K) (hs : PySem.W.findIn K (.ref C) "__eq__" = some (some (.ref f)) ∧ PySem.W.isFn K (.ref f) = true) (N : NeOwn K C) (O : OddC K C) (D : Def X.prog X.w K X.mg X.base k f ps Pf) (hr0 : Room k X.A) (hr : Room (k + 1) X.A) : OpR X (compareOp .NotEq) (rOwnOdd K way true C (spOf K Pf)) := by
  subst hK; exact op_oddNe hs N O D hr0 hr
/-! ### told of data and cells -/
section
variable {K : PySem.W.Frag} {m : Mem} {Q : D → Mem → Prop} {C : Addr} {Pf : FS} {fs : List (Str × D)}
/-- a thing of no own class: data, or a cell -/
def OddD (m : Mem) : D → Prop
  | .non => True
  | .int _ => True
  | .str _ => True
  | .lst _ => True
  | .tup _ => True
  | .dic _ => True
  | .adr p => (∃ ds, MAt m p (.lst ds)) ∨ ∃ kvs, MAt m p (.dic kvs)
  | _ => False
theorem OddD.v {H : Hp} {d : D} {v : V} (h : OddD m d) (M : MemOk K m H) (r : Rd K (hide m H) v d) : OddV K H v := by
  cases d with
  | non => cases r; exact .non
  | int i => cases r; exact .int i
  | str x => cases r; exact .str x
  | lst ds => obtain ⟨p, xs, rfl, e, _⟩ := lst_at r; exact .lst (SqL.of e)
  | tup ds => obtain ⟨p, xs, rfl, e, _⟩ := tup_at r; exact .tup e
  | dic kvs => obtain ⟨p, xs, rfl, e, _⟩ := dic_at r; exact .dic (.inl e)
  | adr p =>
    cases r
    rcases h with ⟨ds, i, hm⟩ | ⟨kvs, i, hm⟩
    · obtain ⟨xs, e, _⟩ := cell_at M hm
      exact .lst (SqL.of e)
    · obtain ⟨xs, e, _⟩ := dicM_at M hm
      exact .dic (.inl e)
  | _ => exact h.elim
/-- the own thing to the left -/
theorem ow_oddL {neg : Bool} {d : D} (h : OddD m d) (q : Pf [.ins C fs, d] m fun z m' => ∃ b, z = .bl b ∧ Q (.bl (if neg = true then !b else b)) m') : OW K (rOwnOdd K true neg C (spOf K Pf)) (.ins C fs) d m Q := fun H v w M a b QQ k => by
  obtain ⟨x, dx, xs, rfl, e, nm, r⟩ := ins_at a
  refine ⟨x, dx, xs, w, ⟨rfl, rfl⟩, e, h.v M b, _, m, _, .cons a (.cons b .nil), M, q, fun d m' v H' ⟨z, ed, q⟩ s2 M2 r2 => ?_⟩
  subst ed
  cases r2
  exact ⟨z, rfl, k _ m' _ H' q s2 M2 (.bl _)⟩
theorem ow_oddR {neg : Bool} {d : D} (h : OddD m d) (q : Pf [.ins C fs, d] m fun z m' => ∃ b, z = .bl b ∧ Q (.bl (if neg = true then !b else b)) m') : OW K (rOwnOdd K false neg C (spOf K Pf)) d (.ins C fs) m Q := fun H v w M a b QQ k => by
  obtain ⟨x, dx, xs, rfl, e, nm, r⟩ := ins_at b
  refine ⟨x, dx, xs, v, ⟨rfl, rfl⟩, e, h.v M a, _, m, _, .cons b (.cons a .nil), M, q, fun d m' v H' ⟨z, ed, q⟩ s2 M2 r2 => ?_⟩
  subst ed
  cases r2
  exact ⟨z, rfl, k _ m' _ H' q s2 M2 (.bl _)⟩
/-- isinstance of an own class, of a builtin kind -/
def OddI (K : PySem.W.Frag) (E : Addr) : Prop := (oddT.all fun T => PySem.W.kitOne K (.type T) (.ref E) == some false) = true
theorem OddI.at_ {E : Addr} (h : OddI K E) {T : String} (m : T ∈ oddT) : PySem.W.kitOne K (.type T) (.ref E) = some false := beq_iff_eq.mp (List.all_eq_true.mp h T m)
theorem cw_isiOdd {d : D} {E : Addr} (h : OddD m d) (hk : OddI K E) (q : Q (.bl false) m) : CW K (rIsi K) [d, .adr E] m Q := fun H vs M a QQ k => by
  cases a with
  | cons a a2 =>
    cases a2 with
    | cons a2 a3 =>
      cases a3
      cases a2
      have fin := k _ m _ H q (Sub.refl _) M (.bl false)
      cases d with
      | non => cases a; exact ⟨_, _, _, _, false, rfl, .own E, .base .non, hk.at_ (by simp [oddT]), fin⟩
      | int i => cases a; exact ⟨_, _, _, _, false, rfl, .own E, .base (.int i), hk.at_ (by simp [oddT]), fin⟩
      | str x => cases a; exact ⟨_, _, _, _, false, rfl, .own E, .base (.str x), hk.at_ (by simp [oddT]), fin⟩
      | lst ds =>
        obtain ⟨p, xs, rfl, e, r⟩ := lst_at a
        exact ⟨_, _, _, _, false, rfl, .own E, .base (.lst e), hk.at_ (by simp [oddT]), fin⟩
      | tup ds =>
        obtain ⟨p, xs, rfl, e, r⟩ := tup_at a
        rcases e with e | ⟨o, its, n, lk, oc, _⟩
        · rcases e with e | ⟨o, e⟩
          · exact ⟨_, _, _, _, false, rfl, .own E, .base (.tup e), hk.at_ (by simp [oddT]), fin⟩
          · exact ⟨_, _, _, _, false, rfl, .own E, .fTuple e, hk.at_ (by simp [oddT]), fin⟩
        · exact ⟨_, _, _, _, false, rfl, .own E, .kTuple lk oc, hk.at_ (by simp [oddT]), fin⟩
      | dic kvs =>
        obtain ⟨p, xs, rfl, e, _⟩ := dic_at a
        exact ⟨_, _, _, _, false, rfl, .own E, .base (.dK e), hk.at_ (by simp [oddT]), fin⟩
      | adr p =>
        cases a
        rcases h with ⟨ds, i, hm⟩ | ⟨kvs, i, hm⟩
        · obtain ⟨xs, e, _⟩ := cell_at M hm
          exact ⟨_, _, _, _, false, rfl, .own E, .base (.lst e), hk.at_ (by simp [oddT]), fin⟩
        · obtain ⟨xs, e, _⟩ := dicM_at M hm
          exact ⟨_, _, _, _, false, rfl, .own E, .base (.dK e), hk.at_ (by simp [oddT]), fin⟩
      | _ => exact h.elim
end
end DL

set_option Elab.async false
set_option linter.all false
set_option maxRecDepth 100000
set_option maxHeartbeats 2000000
set_option autoImplicit false
/-! set(xs) of a list of texts, some of them alike; its length. -/
namespace DL
open PySem PySem.Spec PyProof.Rows L2
theorem rev_ind {α : Type} {P : List α → Prop} (h0 : P []) (h1 : ∀ xs x, P xs → P (xs ++ [x])) (xs : List α) : P xs := by
  have key : ∀ l : List α, P l.reverse := fun l => by
    induction l with
    | nil => exact h0
    | cons a l ih => rw [List.reverse_cons]; exact h1 _ _ ih
  have := key xs.reverse
  rwa [List.reverse_reverse] at this
/-- each of them once, as first met -/
def once {κ : Type} [DecidableEq κ] (xs : List κ) : List κ := xs.foldl (fun l x => if x ∈ l then l else l ++ [x]) []
theorem once_snoc {κ : Type} [DecidableEq κ] (xs : List κ) (x : κ) : once (xs ++ [x]) = if x ∈ once xs then once xs else once xs ++ [x] := by
  unfold once
  rw [List.foldl_append]
  rfl
theorem once_take {κ : Type} [DecidableEq κ] {xs : List κ} {i : Nat} {x : κ} (h : xs[i]? = some x) : once (xs.take (i + 1)) = if x ∈ once (xs.take i) then once (xs.take i) else once (xs.take i) ++ [x] := by
  rw [List.take_add_one, h]
  exact once_snoc _ _
theorem once_len {κ : Type} [DecidableEq κ] (xs : List κ) : (once xs).length ≤ xs.length := by
  induction xs using rev_ind with
  | h0 => exact Nat.le_refl _
  | h1 xs x ih =>
    rw [once_snoc, List.length_append, List.length_singleton]
    split
    · omega
    · rw [List.length_append, List.length_singleton]; omega
theorem once_mem {κ : Type} [DecidableEq κ] (xs : List κ) (y : κ) : y ∈ once xs ↔ y ∈ xs := by
  induction xs using rev_ind with
  | h0 => rfl
  | h1 xs x ih =>
    rw [once_snoc, List.mem_append, List.mem_singleton, ← ih]
    split
    · rename_i h
      exact ⟨.inl, fun q => q.elim id fun e => e ▸ h⟩
    · rw [List.mem_append, List.mem_singleton]
/-- fewer exactly if some stand twice -/
theorem once_lt {κ : Type} [DecidableEq κ] (xs : List κ) : (once xs).length < xs.length ↔ ¬ xs.Nodup := by
  have key : (once xs).length = xs.length ↔ xs.Nodup := by
    induction xs using rev_ind with
    | h0 => exact ⟨fun _ => List.nodup_nil, fun _ => rfl⟩
    | h1 xs x ih =>
      have hl := once_len xs
      rw [once_snoc, List.length_append, List.length_singleton]
      split
      · rename_i h
        refine ⟨fun q => by omega, fun q => ?_⟩
        exact absurd rfl ((List.nodup_append.mp q).2.2 x ((once_mem xs x).mp h) x (List.mem_singleton.mpr rfl))
      · rename_i h
        rw [List.length_append, List.length_singleton, Nat.add_right_cancel_iff, ih]
        refine ⟨fun q => List.nodup_append.mpr ⟨q, List.pairwise_singleton _ _, fun a ha b hb e => h ((once_mem xs x).mpr (by rw [List.mem_singleton] at hb; rw [← hb, ← e]; exact ha))⟩, fun q => (List.nodup_append.mp q).1⟩
  have hl := once_len xs
  constructor
  · intro q z
    have := key.mpr z
    omega
  · intro q
    have : (once xs).length ≠ xs.length := fun z => q (key.mp z)
    omega
section
variable {prog : Program} {w : World} {A : Around} {κ : Type} [DecidableEq κ] {knd : KeyKind prog w κ}
theorem set_as {h : Heap} {a : Addr} {S T : κ → Bool} {n m : Nat} (R : h.SetOf knd a S n) (e : ∀ y, S y = T y) (q : n = m) : h.SetOf knd a T m := by
  cases (funext e : S = T)
  cases q
  exact R
theorem set_keeps {h h' : Heap} {a : Addr} {S : κ → Bool} {n : Nat} (R : h.SetOf knd a S n) (k : ∀ o, h.get? a = some o → h'.get? a = some o) : h'.SetOf knd a S n :=
  let ⟨o, es, ep, t, ho, rest⟩ := R
  ⟨o, es, ep, t, k o ho, rest⟩
/-- the items of a walk are put into the set at Z, one by one -/
theorem add_each {R : Result → Shared → Prop} {I : Addr} {fp wr : List Addr} {G : Array GenState → Array GenState → Prop} {n : Nat} {Pv : Nat → Value → Prop} {St : Nat → Shared → Prop} (W : WalksS prog w A.in1 I fp wr G n Pv St) (Z : Addr) (hZ : Z ∉ fp)
    (xs : List κ) (hn : xs.length = n) (hb : n + 1 < scanBound) (hv : ∀ i v, Pv i v → ∃ y, xs[i]? = some y ∧ knd.is y v = true ∧ v.scannable = true) :
    ∀ (rest i : Nat) (s : Shared), n - i = rest → i ≤ n → St i s → s.heap.SetOf knd Z (fun y => decide (y ∈ once (xs.take i))) (once (xs.take i)).length →
      (∀ s', Moved (Z :: wr) G s s' → s'.heap.SetOf knd Z (fun y => decide (y ∈ once xs)) (once xs).length → R (.ok (.ret .none)) s') →
      codeAny (model prog w) A (.builtin "set.update.loop" ⟨[.ref Z, .ref I], []⟩) R s := by
  have out : Z ∉ wr := fun z => hZ (W.sub _ z)
  have up : ∀ b ∈ wr, b ∈ Z :: wr := fun b z => .tail _ z
  intro rest
  induction rest with
  | zero =>
    intro i s er hi st has fin
    obtain rfl : i = n := by omega
    refine codeAny_builtin F.entry_set_update_loop (by rw [Around.under_plainId F.plain_set_update_loop _]; exact wpAny_bind (W.done s _ _ st fun s1 mv => wpAny_pure (fin s1 (mv.mono up) (set_keeps (set_as has (fun y => by rw [List.take_of_length_le (by omega)]) (by rw [List.take_of_length_le (by omega)])) fun o ho => mv.heap Z o out ho))))
  | succ rest ih =>
    intro i s er hi st has fin
    have lt : i < n := by omega
    refine codeAny_builtin F.entry_set_update_loop (by
      rw [Around.under_plainId F.plain_set_update_loop _]
      refine wpAny_bind (W.item i s _ _ lt st fun v s1 pv st1 mv => ?_)
      obtain ⟨y, ey, ky, sy⟩ := hv i v pv
      have has1 := set_keeps has fun o ho => mv.heap Z o out ho
      have room : (once (xs.take i)).length + 1 < scanBound := by have := once_len (xs.take i); rw [List.length_take] at this; omega
      refine wpAny_bind (wpAny_holding (by
        unfold setAdd
        refine wpAny_holding (wpAny_bind (knd.pyHash ky (wpAny_setAddHashed_of (s := { s1 with toks := s1.toks + 1 }) ky sy has1 room fun h2 sb has2 => ?_)))
        have has3 : h2.SetOf knd Z (fun z => decide (z ∈ once (xs.take (i + 1)))) (once (xs.take (i + 1))).length := set_as has2 (fun z => by
          rw [once_take ey]
          by_cases q : y ∈ once (xs.take i)
          · rw [if_pos q]
            by_cases e : z = y
            · subst e; simp [q]
            · simp [e]
          · rw [if_neg q]; simp) (by
          rw [once_take ey]
          by_cases q : y ∈ once (xs.take i)
          · simp [q]
          · simp [q])
        refine wpAny_pure ⟨plainId_quiet F.plain_set_update_loop _, ih (i + 1) _ (by omega) lt (W.frame _ s1 _ _ st1 (Nat.le_succ _) fun b z o e => (sb.2 b fun q : b = Z => hZ (q ▸ z)).trans e) has3 fun s3 mv3 has4 => fin s3 (Moved.trans W.gtrans ((mv.mono up).then_heap (Nat.le_succ _) fun b o z e => (sb.2 b fun q : b = Z => z (q ▸ .head _)).trans e) mv3) has4⟩)))
abbrev noneYet (led : Bool) : Obj := { cls := .type "set", dict := none, data := .set #[] 0 (.fresh 0 0 led) }
/-- set(xs), xs a list of keys of one kind -/
theorem set_of_list {E : Value → Shared → Prop} {s : Shared} {l : Addr} {items : Array Value} {Q : Value → Shared → Prop} (hh : A.handled = none) (hl : s.heap.IsList l items) (xs : List κ) (hn : xs.length = items.size) (hb : items.size + 1 < scanBound)
    (hv : ∀ (i : Nat) (v : Value), items[i]? = some v → ∃ y : κ, xs[i]? = some y ∧ knd.is y v = true ∧ v.scannable = true)
    (h : ∀ (h' : Heap) (tk : Nat), h'.SetOf knd s.heap.objs.size (fun y => decide (y ∈ once xs)) (once xs).length → (∀ b o, s.heap.get? b = some o → h'.get? b = some o) → Q (.ref s.heap.objs.size) { s with heap := h', toks := tk }) :
    wpAny (model prog w) A (call (.type "set") [.ref l]) Q E s := by
  have T := PySem.F.called_set
  obtain ⟨_, _, hmro⟩ := T.mro
  have t1 := T.made
  have t2 := T.sub
  have t3 := T.notType
  have t4 := T.canCreate
  have t5 := PySem.F.typeCall_set_1 (.ref l)
  refine wpAny_call (codeAny_of_tree (show wpAny _ _ (callAny (.type "set") _) _ _ _ from wpAny_pure ⟨Code.quiet_builtin _ (by decide +kernel), codeAny_builtin PySem.F.entry_type_call ?_⟩))
  rw [Around.under_plain (weight_type_call_type "set" [.ref l] []) rfl]
  repeat (any_goals (first | assumption | wp_step))
  refine codeAny_mono (code_set_new_1 (.ref l) (E := E) (Q₁ := fun u s1 => ∃ led, u = .ref s.heap.objs.size ∧ s1 = { s with heap := s.heap.push (noneYet led) }) fun led => ⟨led, rfl, rfl⟩) fun r s1 hr => ?_
  match r, hr with
  | .error _, hr => exact hr
  | .ok .next, hr => exact hr.elim
  | .ok .brk, hr => exact hr.elim
  | .ok .cont, hr => exact hr.elim
  | .ok (.ret _), ⟨led, e1, e2⟩ =>
    subst e1
    subst e2
    have at0 : (s.heap.push (noneYet led)).get? s.heap.objs.size = some (noneYet led) := Heap.get?_push_size _ rfl
    have ty0 : Shared.TypeIs { s with heap := s.heap.push (noneYet led) } (.ref s.heap.objs.size) "set" := ⟨_, at0, rfl⟩
    have t6 := T.init.lookup
    have t7 := T.init.bind (.ref s.heap.objs.size)
    repeat (any_goals (first | assumption | wp_step))
    refine codeAny_mono (codeAny_call_builtin (R := wants (fun r s2 => r = .none ∧ ∃ h' tk, s2 = { s with heap := h', toks := tk } ∧ h'.SetOf knd s.heap.objs.size (fun y => decide (y ∈ once xs)) (once xs).length ∧ ∀ b o, s.heap.get? b = some o → h'.get? b = some o) E) T.init.plain PySem.F.entry_set_init (check_set_init_1 ty0 ?_)) fun r2 s2 hr2 => ?_
    · obtain ⟨⟨lc, ld, lo, ls⟩, hol, hcl, nl, hdl⟩ := hl
      cases (show lc = _ from hcl)
      cases (show lo = _ from hdl)
      have at1 := Heap.get?_push_of_some (noneYet led) hol
      have u1 := PySem.F.sub_list_set
      have u2 := PySem.F.sub_list_frozenset
      have u3 : (Value.type "list" == Value.type "dict") = false := rfl
      have isl : (s.heap.push (noneYet led)).IsList l items := ⟨_, at1, rfl, nl, rfl⟩
      unfold Builtin.«set.__init__» noKeywords Builtin.Frozenset.updateFrom
      generalize hPI : pyIter = PI
      wp_walk
      subst hPI
      refine wpAny_pyIter_list isl (wpAny_bind (wpAny_runValue ?_))
      have lt := Heap.lt_size hol
      have hh3 : A.in1.in1.in1.handled = none := by simp [hh]
      have ne1 : l ≠ (s.heap.push (noneYet led)).objs.size := by rw [Heap.size_push]; exact Nat.ne_of_lt (Nat.lt_succ_of_lt lt)
      have ne2 : s.heap.objs.size ∉ [(s.heap.push (noneYet led)).objs.size, l] := fun z => (List.mem_cons.mp z).elim (fun q => by rw [Heap.size_push] at q; exact absurd q (Nat.ne_of_lt (Nat.lt_succ_self _))) fun q => absurd (List.mem_singleton.mp q) (Nat.ne_of_gt lt)
      refine add_each ((Walks.list hh3 _ l ne1 items).toS) s.heap.objs.size ne2 xs hn hb hv (items.size - 0) 0 _ (by omega) (Nat.zero_le _) ⟨⟨_, Heap.get?_push_size _ rfl, rfl, rfl⟩, (isl.push _)⟩ ?_ ?_
      · exact set_as ((setObjOf_fresh (knd := knd) led).setOf (Heap.get?_push_of_some _ at0) (Nat.lt_of_le_of_lt (Nat.zero_le _) hb)) (fun _ => by simp [once]) rfl
      · rintro ⟨h', g', d', tk', os'⟩ mv has
        have eg : g' = s.gens := mv.gens
        have ed : d' = s.drawn := mv.drawn
        have eo : os' = s.os := mv.os
        cases eg; cases ed; cases eo
        show wpAny _ _ _ _ _ _
        refine wpAny_pure ?_
        show wpAny _ _ (ret Value.none) _ _ _
        refine wpAny_pure ⟨rfl, h', tk', rfl, has, fun b o e => ?_⟩
        have lb := Heap.lt_size e
        exact mv.heap b o (fun z => (List.mem_cons.mp z).elim (fun q => absurd q (Nat.ne_of_lt lb)) fun q => by
          have q := List.mem_singleton.mp q
          rw [Heap.size_push] at q
          exact absurd q (Nat.ne_of_lt (Nat.lt_succ_of_lt lb))) (Heap.get?_push_of_some _ (Heap.get?_push_of_some _ e))
    · match r2, hr2 with
      | .error _, hr2 => exact hr2
      | .ok .next, hr2 => exact hr2.elim
      | .ok .brk, hr2 => exact hr2.elim
      | .ok .cont, hr2 => exact hr2.elim
      | .ok (.ret _), ⟨e3, h', tk, e4, has, kp⟩ =>
        subst e3
        subst e4
        repeat (any_goals (first | assumption | wp_step))
        exact h _ _ has kp
end
theorem strs_get : ∀ {xs : List Str} {us : List Value}, Vals (xs.map V.str) us → ∀ (i : Nat) (v : Value), us[i]? = some v → ∃ y, xs[i]? = some y ∧ ∃ t, v = .str y t
  | [], _, .nil, _, _, h => by simp at h
  | x :: xs, _, .cons r rs, 0, v, h => by
    obtain ⟨t, e⟩ := r
    exact ⟨x, rfl, t, by rw [← e]; simpa using h.symm⟩
  | x :: xs, _, .cons r rs, i + 1, v, h => strs_get rs i v (by simpa using h)
/-! ### len(set(xs)), xs a list of texts -/
def tLenSetS (K : PySem.W.Frag) (ta : TE) : TE := fun σ H Q => ta σ H fun x H1 => ∃ (l : Addr) (xs : List Str), x = .ref l ∧ SqL K H1 l (xs.map V.str) ∧ xs.length ≤ 1000 ∧ Q (.int ((once xs).length : Nat)) H1
theorem pe_lenSetS {X : Cx} {a : Expr} {ta : TE} {p p2 q pos : Pos} (hc : X.calm = true) (hg : Gl X "len") (hm : X.mg "len" = none) (hg2 : Gl X "set") (hm2 : X.mg "set" = none) (ha : PE X a ta)
    (na : starEach [a] X.env = (false, eval a X.env) :: starEach [] X.env := by rfl) : PE X (.Call (.Name "len" p) [.Call (.Name "set" p2) [a] [] q] [] pos) (tLenSetS X.K ta) := by
  refine ⟨fun pins s σ H Q I h => Call_ (ld_blt I hg hm boot_len (PyProof.Rows.callWith_builtin1 (PyProof.Rows.args_cons (Call_ (ld_blt I hg2 hm2 boot_set (PyProof.Rows.callWith_type1 (PyProof.Rows.args_cons (thn (ha.run pins s σ H _ I h) fun v s1 ⟨x, H1, I1, r1, q1⟩ => PyProof.Rows.args_nil ?_) na) na rfl))) rfl) rfl rfl))⟩
  obtain ⟨l, xs, rfl, hq, hl, q1⟩ := q1
  cases r1
  obtain ⟨its, rv, pl, hz⟩ := I1.list hq
  have el : xs.length = its.toArray.size := by have := rv.length; rw [List.length_map] at this; simpa using this
  refine set_of_list (knd := PySem.strKind X.prog X.w) (I1.ok.hd hc) pl.isList xs el (by rw [← el]; unfold scanBound; omega) (fun i v hv => ?_) fun h' tk has kp => ?_
  · obtain ⟨y, ey, t, ev⟩ := strs_get rv i v (by simpa using hv)
    subst ev
    exact ⟨y, ey, strKind_is _ _ _ _, rfl⟩
  · refine PyProof.Rows.args_nil ?_
    obtain ⟨o, es, ep, t, ho, hex, hd, _, _, _, hf, hn⟩ := has
    have I2 : Inv X pins σ H1 { s1 with heap := h', toks := tk } := I1.kept fun b o e => kp b o e
    have := once_len xs
    refine call_len_set ho hex hd hf (by rw [hn]; omega) ⟨.int ((once xs).length : Nat), H1, I2.tok _, ⟨tk + 1, by rw [hn]⟩, q1⟩
theorem kx_lenSetS {X : Cx} (K : PySem.W.Frag) (hK : X.K = K) {a : Expr} {ta : TE} {p p2 q pos : Pos} (hc : X.calm = true) (hg : Gl X "len") (hm : X.mg "len" = none) (hg2 : Gl X "set") (hm2 : X.mg "set" = none) (ha : PE X a ta)
    (na : starEach [a] X.env = (false, eval a X.env) :: starEach [] X.env := by rfl) : PE X (.Call (.Name "len" p) [.Call (.Name "set" p2) [a] [] q] [] pos) (tLenSetS K ta) := by subst hK; exact pe_lenSetS hc hg hm hg2 hm2 ha na
section
variable {K : PySem.W.Frag} {δ : List (Option D)} {m : Mem} {Q : D → Mem → Prop} {ta : TE}
theorem ew_lenSetS (h : EW K ta δ m fun x m1 => ∃ xs : List Str, SeqIn m1 x (xs.map .str) ∧ xs.length ≤ 1000 ∧ Q (.int ((once xs).length : Nat)) m1) : EW K (tLenSetS K ta) δ m Q := fun σ H s M QQ k =>
  h σ H s M _ fun x m1 v1 H1 ⟨xs, sq, hl, q⟩ s1 M1 r1 => by
    obtain ⟨p, vs, rfl, e, r⟩ := sq.get M1 r1
    have := RdL.strs_v r
    subst this
    exact ⟨p, xs, rfl, SqL.of e, hl, k _ m1 _ H1 q s1 M1 (.int _)⟩
end
end DL

set_option Elab.async false
set_option linter.all false
set_option maxRecDepth 100000
set_option maxHeartbeats 4000000
set_option autoImplicit false
namespace DL
open PySem PySem.Spec PyProof.Rows L2
def top (i : Nat) : Stmt := PySem.Challenge.pw_anycut_k04_equal_services.main.body.getD i (.Pass ⟨0, 0, 0, 0⟩)
def clsBody : Stmt → List Stmt
  | .ClassDef (body := b) .. => b
  | _ => []
abbrev s_Service___eq__ : Stmt := (clsBody (top 17)).getD 4 (.Pass ⟨0, 0, 0, 0⟩)
abbrev N_Service___eq__ : List Str := ["self", "other"]
theorem sc_Service___eq__ : FnScope N_Service___eq__ ["self", "other"] (defScope s_Service___eq__) := ⟨rfl, rfl, rfl, by decide +kernel, rfl, by decide +kernel, by decide +kernel⟩
abbrev s__law_both : Stmt := top 30
abbrev N__law_both : List Str := ["one_here", "two_here"]
theorem sc__law_both : FnScope N__law_both ["one_here", "two_here"] (defScope s__law_both) := ⟨rfl, rfl, rfl, by decide +kernel, rfl, by decide +kernel, by decide +kernel⟩
abbrev s_Service_calls : Stmt := (clsBody (top 17)).getD 1 (.Pass ⟨0, 0, 0, 0⟩)
abbrev N_Service_calls : List Str := ["self"]
theorem sc_Service_calls : FnScope N_Service_calls ["self"] (defScope s_Service_calls) := ⟨rfl, rfl, rfl, by decide +kernel, rfl, by decide +kernel, by decide +kernel⟩
abbrev s_Service_table : Stmt := (clsBody (top 17)).getD 2 (.Pass ⟨0, 0, 0, 0⟩)
abbrev N_Service_table : List Str := ["self", "row"]
theorem sc_Service_table : FnScope N_Service_table ["self"] (defScope s_Service_table) := ⟨rfl, rfl, rfl, by decide +kernel, rfl, by decide +kernel, by decide +kernel⟩
abbrev s_reached : Stmt := top 16
abbrev N_reached : List Str := ["table", "found", "known", "at", "row", "onward", "_"]
theorem sc_reached : FnScope N_reached ["table"] (defScope s_reached) := ⟨rfl, rfl, rfl, by decide +kernel, rfl, by decide +kernel, by decide +kernel⟩
abbrev s_is_state : Stmt := top 13
abbrev N_is_state : List Str := ["number", "many"]
theorem sc_is_state : FnScope N_is_state ["number", "many"] (defScope s_is_state) := ⟨rfl, rfl, rfl, by decide +kernel, rfl, by decide +kernel, by decide +kernel⟩
abbrev s_check_table : Stmt := top 15
abbrev N_check_table : List Str := ["table", "width", "index", "row", "step"]
theorem sc_check_table : FnScope N_check_table ["table", "width"] (defScope s_check_table) := ⟨rfl, rfl, rfl, by decide +kernel, rfl, by decide +kernel, by decide +kernel⟩
abbrev s_is_name : Stmt := top 10
abbrev N_is_name : List Str := ["word", "letter"]
theorem sc_is_name : FnScope N_is_name ["word"] (defScope s_is_name) := ⟨rfl, rfl, rfl, by decide +kernel, rfl, by decide +kernel, by decide +kernel⟩
abbrev s_CutError___init__ : Stmt := (clsBody (top 1)).getD 0 (.Pass ⟨0, 0, 0, 0⟩)
abbrev N_CutError___init__ : List Str := ["self", "value"]
theorem sc_CutError___init__ : FnScope N_CutError___init__ ["self", "value"] (defScope s_CutError___init__) := ⟨rfl, rfl, rfl, by decide +kernel, rfl, by decide +kernel, by decide +kernel⟩
abbrev s_check_name : Stmt := top 11
abbrev N_check_name : List Str := ["word"]
theorem sc_check_name : FnScope N_check_name ["word"] (defScope s_check_name) := ⟨rfl, rfl, rfl, by decide +kernel, rfl, by decide +kernel, by decide +kernel⟩
abbrev s_check_names : Stmt := top 14
abbrev N_check_names : List Str := ["names", "seen", "name"]
theorem sc_check_names : FnScope N_check_names ["names"] (defScope s_check_names) := ⟨rfl, rfl, rfl, by decide +kernel, rfl, by decide +kernel, by decide +kernel⟩
abbrev s_Service___init__ : Stmt := (clsBody (top 17)).getD 0 (.Pass ⟨0, 0, 0, 0⟩)
abbrev N_Service___init__ : List Str := ["self", "names", "table", "found", "numbers", "number", "state", "place", "name", "onward", "answer"]
theorem sc_Service___init__ : FnScope N_Service___init__ ["self", "names", "table"] (defScope s_Service___init__) := ⟨rfl, rfl, rfl, by decide +kernel, rfl, by decide +kernel, by decide +kernel⟩
abbrev s__law_built : Stmt := top 27
abbrev N__law_built : List Str := ["names_here", "grid", "line"]
theorem sc__law_built : FnScope N__law_built ["names_here", "grid"] (defScope s__law_built) := ⟨rfl, rfl, rfl, by decide +kernel, rfl, by decide +kernel, by decide +kernel⟩
abbrev s__law_walked : Stmt := top 25
abbrev N__law_walked : List Str := ["grid", "order", "found", "turn", "line", "follow", "answer"]
theorem sc__law_walked : FnScope N__law_walked ["grid"] (defScope s__law_walked) := ⟨rfl, rfl, rfl, by decide +kernel, rfl, by decide +kernel, by decide +kernel⟩
abbrev s__law_toss : Stmt := top 20
abbrev N__law_toss : List Str := ["kit", "many", "taken", "mixed"]
theorem sc__law_toss : FnScope N__law_toss ["kit", "many"] (defScope s__law_toss) := ⟨rfl, rfl, rfl, by decide +kernel, rfl, by decide +kernel, by decide +kernel⟩
abbrev s__law_changed : Stmt := top 29
abbrev N__law_changed : List Str := ["kit", "names_here", "grid", "labels", "lines", "way", "at", "spot", "follow", "answer", "line", "label"]
theorem sc__law_changed : FnScope N__law_changed ["kit", "names_here", "grid"] (defScope s__law_changed) := ⟨rfl, rfl, rfl, by decide +kernel, rfl, by decide +kernel, by decide +kernel⟩
abbrev s__law_far_answers : Stmt := top 28
abbrev N__law_far_answers : List Str := ["kit", "grid", "base", "found", "line", "step"]
theorem sc__law_far_answers : FnScope N__law_far_answers ["kit", "grid"] (defScope s__law_far_answers) := ⟨rfl, rfl, rfl, by decide +kernel, rfl, by decide +kernel, by decide +kernel⟩
abbrev s__law_answer : Stmt := top 22
abbrev N__law_answer : List Str := ["kit"]
theorem sc__law_answer : FnScope N__law_answer ["kit"] (defScope s__law_answer) := ⟨rfl, rfl, rfl, by decide +kernel, rfl, by decide +kernel, by decide +kernel⟩
abbrev s__law_column : Stmt := top 23
abbrev N__law_column : List Str := ["kit", "many", "way", "goal", "shared", "at"]
theorem sc__law_column : FnScope N__law_column ["kit", "many"] (defScope s__law_column) := ⟨rfl, rfl, rfl, by decide +kernel, rfl, by decide +kernel, by decide +kernel⟩
abbrev s__law_grid : Stmt := top 24
abbrev N__law_grid : List Str := ["kit", "many", "count", "columns", "turn", "at", "column"]
theorem sc__law_grid : FnScope N__law_grid ["kit", "many", "count"] (defScope s__law_grid) := ⟨rfl, rfl, rfl, by decide +kernel, rfl, by decide +kernel, by decide +kernel⟩
abbrev s__law_tags : Stmt := top 21
abbrev N__law_tags : List Str := ["kit", "many", "letters", "way", "at", "texts_here", "stem", "spot", "pace", "k", "turn"]
theorem sc__law_tags : FnScope N__law_tags ["kit", "many"] (defScope s__law_tags) := ⟨rfl, rfl, rfl, by decide +kernel, rfl, by decide +kernel, by decide +kernel⟩
abbrev s__law_fits : Stmt := top 31
abbrev N__law_fits : List Str := ["kit", "names_here", "grid", "labels", "lines", "made", "mate", "alike", "unlike", "is_same", "things", "thing"]
theorem sc__law_fits : FnScope N__law_fits ["kit"] (defScope s__law_fits) := ⟨rfl, rfl, rfl, by decide +kernel, rfl, by decide +kernel, by decide +kernel⟩
abbrev s__law_kit : Stmt := top 19
abbrev N__law_kit : List Str := ["script", "place", "figure", "start"]
theorem sc__law_kit : FnScope N__law_kit ["script", "place"] (defScope s__law_kit) := ⟨rfl, rfl, rfl, by decide +kernel, rfl, by decide +kernel, by decide +kernel⟩
abbrev s_law : Stmt := top 32
abbrev N_law : List Str := ["script", "place", "kit", "turn"]
theorem sc_law : FnScope N_law ["script"] (defScope s_law) := ⟨rfl, rfl, rfl, by decide +kernel, rfl, by decide +kernel, by decide +kernel⟩
structure Ads where
  c_CutError : Addr
  c_InvalidName : Addr
  c_Service : Addr
  f_Service___eq__ : Addr
  f__law_both : Addr
  f_Service_calls : Addr
  f_Service_table : Addr
  f_reached : Addr
  f_is_state : Addr
  f_check_table : Addr
  f_is_name : Addr
  f_CutError___init__ : Addr
  f_check_name : Addr
  f_check_names : Addr
  f_Service___init__ : Addr
  f__law_built : Addr
  f__law_walked : Addr
  f__law_toss : Addr
  f__law_changed : Addr
  f__law_far_answers : Addr
  f__law_answer : Addr
  f__law_column : Addr
  f__law_grid : Addr
  f__law_tags : Addr
  f__law_fits : Addr
  f__law_kit : Addr
  f_law : Addr
structure Txt (K : PySem.W.Frag) (mg : Str → Option Value) (a : Ads) : Prop where
  n_abs : mg "abs" = none
  n_all : mg "all" = none
  n_bool : mg "bool" = none
  n_enumerate : mg "enumerate" = none
  n_int : mg "int" = none
  n_isinstance : mg "isinstance" = none
  n_len : mg "len" = none
  n_list : mg "list" = none
  n_max : mg "max" = none
  n_min : mg "min" = none
  n_range : mg "range" = none
  n_repr : mg "repr" = none
  n_set : mg "set" = none
  n_str : mg "str" = none
  g_LETTERS : ∃ u, mg "LETTERS" = some u ∧ RelV (.str "abcdefghijklmnopqrstuvwxyz") u
  g_MOST_LETTERS : ∃ u, mg "MOST_LETTERS" = some u ∧ RelV (.int 8) u
  g_CutError : mg "CutError" = some (.ref a.c_CutError)
  g_InvalidName : mg "InvalidName" = some (.ref a.c_InvalidName)
  g_Service : mg "Service" = some (.ref a.c_Service)
  cl_Service : Cls K a.c_Service
  na_Service__names : NoAttr K a.c_Service "_names"
  na_Service__places : NoAttr K a.c_Service "_places"
  na_Service__rows : NoAttr K a.c_Service "_rows"
  na_Service_value : NoAttr K a.c_Service "value"
  er_CutError : ErrC K a.c_CutError a.f_CutError___init__
  xf_CutError : XfC K a.c_CutError
  xc_CutError : ExcC K a.c_CutError
  su_CutError_CutError : PySem.W.subIn K (.ref a.c_CutError) (.ref a.c_CutError) = some true
  su_CutError_InvalidName : PySem.W.subIn K (.ref a.c_CutError) (.ref a.c_InvalidName) = some false
  er_InvalidName : ErrC K a.c_InvalidName a.f_CutError___init__
  xf_InvalidName : XfC K a.c_InvalidName
  xc_InvalidName : ExcC K a.c_InvalidName
  su_InvalidName_CutError : PySem.W.subIn K (.ref a.c_InvalidName) (.ref a.c_CutError) = some true
  su_InvalidName_InvalidName : PySem.W.subIn K (.ref a.c_InvalidName) (.ref a.c_InvalidName) = some true
  h_Service___eq__ : Has K "__eq__" "Service.__eq__" s_Service___eq__ a.f_Service___eq__ ["self", "other"]
  eq_Service : PySem.W.findIn K (.ref a.c_Service) "__eq__" = some (some (.ref a.f_Service___eq__)) ∧ PySem.W.isFn K (.ref a.f_Service___eq__) = true
  h__law_both : Has K "_law_both" "_law_both" s__law_both a.f__law_both ["one_here", "two_here"]
  g__law_both : mg "_law_both" = some (.ref a.f__law_both)
  k__law_both : PySem.W.keepIn K (.ref a.f__law_both) = true
  h_Service_calls : Has K "calls" "Service.calls" s_Service_calls a.f_Service_calls ["self"]
  p_Service_calls : ∃ q, PropOf K a.c_Service "calls" q a.f_Service_calls
  h_Service_table : Has K "table" "Service.table" s_Service_table a.f_Service_table ["self"]
  p_Service_table : ∃ q, PropOf K a.c_Service "table" q a.f_Service_table
  h_reached : Has K "reached" "reached" s_reached a.f_reached ["table"]
  g_reached : mg "reached" = some (.ref a.f_reached)
  k_reached : PySem.W.keepIn K (.ref a.f_reached) = true
  h_is_state : Has K "is_state" "is_state" s_is_state a.f_is_state ["number", "many"]
  g_is_state : mg "is_state" = some (.ref a.f_is_state)
  k_is_state : PySem.W.keepIn K (.ref a.f_is_state) = true
  h_check_table : Has K "check_table" "check_table" s_check_table a.f_check_table ["table", "width"]
  g_check_table : mg "check_table" = some (.ref a.f_check_table)
  k_check_table : PySem.W.keepIn K (.ref a.f_check_table) = true
  h_is_name : Has K "is_name" "is_name" s_is_name a.f_is_name ["word"]
  g_is_name : mg "is_name" = some (.ref a.f_is_name)
  k_is_name : PySem.W.keepIn K (.ref a.f_is_name) = true
  h_CutError___init__ : Has K "__init__" "CutError.__init__" s_CutError___init__ a.f_CutError___init__ ["self", "value"]
  h_check_name : Has K "check_name" "check_name" s_check_name a.f_check_name ["word"]
  g_check_name : mg "check_name" = some (.ref a.f_check_name)
  k_check_name : PySem.W.keepIn K (.ref a.f_check_name) = true
  h_check_names : Has K "check_names" "check_names" s_check_names a.f_check_names ["names"]
  g_check_names : mg "check_names" = some (.ref a.f_check_names)
  k_check_names : PySem.W.keepIn K (.ref a.f_check_names) = true
  h_Service___init__ : Has K "__init__" "Service.__init__" s_Service___init__ a.f_Service___init__ ["self", "names", "table"]
  mk_Service : Mk K a.c_Service a.f_Service___init__
  h__law_built : Has K "_law_built" "_law_built" s__law_built a.f__law_built ["names_here", "grid"]
  g__law_built : mg "_law_built" = some (.ref a.f__law_built)
  k__law_built : PySem.W.keepIn K (.ref a.f__law_built) = true
  h__law_walked : Has K "_law_walked" "_law_walked" s__law_walked a.f__law_walked ["grid"]
  g__law_walked : mg "_law_walked" = some (.ref a.f__law_walked)
  k__law_walked : PySem.W.keepIn K (.ref a.f__law_walked) = true
  h__law_toss : Has K "_law_toss" "_law_toss" s__law_toss a.f__law_toss ["kit", "many"]
  g__law_toss : mg "_law_toss" = some (.ref a.f__law_toss)
  k__law_toss : PySem.W.keepIn K (.ref a.f__law_toss) = true
  h__law_changed : Has K "_law_changed" "_law_changed" s__law_changed a.f__law_changed ["kit", "names_here", "grid"]
  g__law_changed : mg "_law_changed" = some (.ref a.f__law_changed)
  k__law_changed : PySem.W.keepIn K (.ref a.f__law_changed) = true
  h__law_far_answers : Has K "_law_far_answers" "_law_far_answers" s__law_far_answers a.f__law_far_answers ["kit", "grid"]
  g__law_far_answers : mg "_law_far_answers" = some (.ref a.f__law_far_answers)
  k__law_far_answers : PySem.W.keepIn K (.ref a.f__law_far_answers) = true
  h__law_answer : Has K "_law_answer" "_law_answer" s__law_answer a.f__law_answer ["kit"]
  g__law_answer : mg "_law_answer" = some (.ref a.f__law_answer)
  k__law_answer : PySem.W.keepIn K (.ref a.f__law_answer) = true
  h__law_column : Has K "_law_column" "_law_column" s__law_column a.f__law_column ["kit", "many"]
  g__law_column : mg "_law_column" = some (.ref a.f__law_column)
  k__law_column : PySem.W.keepIn K (.ref a.f__law_column) = true
  h__law_grid : Has K "_law_grid" "_law_grid" s__law_grid a.f__law_grid ["kit", "many", "count"]
  g__law_grid : mg "_law_grid" = some (.ref a.f__law_grid)
  k__law_grid : PySem.W.keepIn K (.ref a.f__law_grid) = true
  h__law_tags : Has K "_law_tags" "_law_tags" s__law_tags a.f__law_tags ["kit", "many"]
  g__law_tags : mg "_law_tags" = some (.ref a.f__law_tags)
  k__law_tags : PySem.W.keepIn K (.ref a.f__law_tags) = true
  h__law_fits : Has K "_law_fits" "_law_fits" s__law_fits a.f__law_fits ["kit"]
  g__law_fits : mg "_law_fits" = some (.ref a.f__law_fits)
  k__law_fits : PySem.W.keepIn K (.ref a.f__law_fits) = true
  h__law_kit : Has K "_law_kit" "_law_kit" s__law_kit a.f__law_kit ["script", "place"]
  g__law_kit : mg "_law_kit" = some (.ref a.f__law_kit)
  k__law_kit : PySem.W.keepIn K (.ref a.f__law_kit) = true
  h_law : Has K "law" "law" s_law a.f_law ["script"]
  g_law : mg "law" = some (.ref a.f_law)
  k_law : PySem.W.keepIn K (.ref a.f_law) = true
  ne_Service : NeOwn K a.c_Service
  odd_Service : OddC K a.c_Service
  oi_Service : OddI K a.c_Service
  io_Service : IsOwn K a.c_Service
  b_law : ∀ fd, FdAt K a.f_law fd → ∀ (s : Shared) (v : Value), BindsTo s fd ⟨[v], []⟩ [("script", v)]
end DL

set_option Elab.async false
set_option linter.all false
set_option maxRecDepth 100000
set_option maxHeartbeats 4000000
set_option autoImplicit false
namespace DL
open PySem PySem.Spec PyProof.Rows L2
local macro_rules | `(tactic| walk_at "m") => `(tactic| first
  | with_reducible exact MAt.last | with_reducible exact MUp.last
  | exact MAt.zero | exact MUp.zero | exact MAt.last | exact MUp.last
  | (apply MAt.cons; walk_at "m") | (apply MUp.cons; walk_at "m")
  | (apply MAt.app; walk_at "m") | (apply MUp.app; walk_at "m")
  | assumption)
local macro_rules | `(tactic| walk_at "s1") => `(tactic| with_reducible first
  | refine sw_seq ?_ | refine sw_next ?_ | refine sw_ret ?_ | refine sw_retN ?_ | refine sw_asg ?_ | refine sw_asgG ?_ | refine sw_drop ?_ | refine sw_break ?_ | refine sw_cont ?_ | refine sw_par ?_ | refine sw_par3 ?_
  | refine tw_test ?_ | refine tw_B ?_ | refine tw_and ?_ | refine tw_or ?_ | refine tw_not ?_ | refine tw_yes ?_
  | refine ew_op ?_ | refine ew_un ?_ | refine ew_int ?_ | refine ew_non ?_ | refine ew_bl ?_ | refine ew_str ?_ | refine ew_ty ?_ | refine ew_ref ?_ | refine ew_cb ?_ | refine ew_if ?_ | refine ew_andV ?_ | refine ew_orV ?_ | refine ew_notV ?_ | refine ew_chain ?_ | refine ew_sl ?_ | refine pw_no ?_ | refine pw_part ?_
  | refine ew_call0 ?_ | refine ew_kw0 ?_
  | refine aw_nil ?_ | refine aw_cons ?_ | refine ew_bm ?_ | refine ew_bm0 ?_ | refine gs_L ?_
  | refine gs_nil ?_ | refine gs_cons ?_ | refine gw_name ?_
  | refine ow_addI ?_ | refine ow_odd ?_ | refine ow_i0 ?_ | refine ow_b0 ?_ | refine oq_eqI ?_ | refine oq_neI ?_ | refine oq_eqS ?_ | refine oq_neS ?_ | refine ow_isN ?_ | refine ow_notN ?_ | refine uw_neg ?_ | refine cw_int ?_ | refine cw_intB ?_ | refine cw_abs ?_ | refine cw_mx2 ?_ | refine cw_mn2 ?_ | refine cw_lenL ?_ | refine cw_lenR ?_ | refine cw_listL ?_ | refine cw_listT ?_ | refine lw_L ?_ | refine ew_revL ?_)
local macro_rules | `(tactic| walk_at "s2") => `(tactic| first
  | ((with_reducible refine' ew_var ?hv ?_); (case hv => exact rfl))
  | ((with_reducible refine' oi_M ?hm ?hi ?_); (case hm => walk_at "m"); (case hi => exact rfl))
  | ((with_reducible refine' ow_ixT ?hi ?_); (case hi => exact rfl))
  | ((with_reducible refine' cl_M ?hm ?_); (case hm => walk_at "m"))
  | ((with_reducible refine' ci_M ?hm ?_); (case hm => walk_at "m"))
  | ((with_reducible refine' ma_app ?hm ?ll ?_); (case hm => walk_at "m"); (case ll => walk_at "l"))
  | ((with_reducible refine' And.intro (ty_A ?hm) ?_); (case hm => walk_at "m"))
  | (with_reducible refine' Exists.intro _ (And.intro ?he ?_); (case he => exact rfl))
  | (with_reducible refine' Exists.intro _ (Exists.intro _ (And.intro ?he ?_)); (case he => exact rfl))
  | (with_reducible refine' Exists.intro _ (Exists.intro _ (Exists.intro _ (And.intro ?he ?_))); (case he => exact rfl))
  | ((with_reducible refine' Exists.intro _ (Exists.intro _ (Exists.intro _ (Exists.intro _ (Exists.intro _ (And.intro ?e1 (And.intro ?e2 (And.intro ?hm (And.intro ?hi ?_))))))))); (case e1 => exact rfl); (case e2 => exact rfl); (case hm => walk_at "m"); (case hi => exact rfl)))
local macro_rules | `(tactic| walk_at "l") => `(tactic| first | assumption | exact lt_sz (by omega) | exact lt_sz (by simp only [List.length_map, List.length_append, List.length_cons, List.length_nil, List.length_take, List.length_drop, List.length_range]; omega))
local macro_rules | `(tactic| walk_at "s") => `(tactic| repeat (first | walk_at "s1" | walk_at "s2"))
local macro_rules | `(tactic| walk_at "sx") => `(tactic| with_reducible first
  | refine swx_of ?_ | refine swx_seq ?_ | refine swx_drop ?_ | refine swx_asg ?_ | refine swx_ret ?_ | refine ewx_fun ?_ | refine ewx_meth ?_ | refine ewx_make ?_ | refine ewx_sub ?_)
local macro_rules | `(tactic| walk_at "s") => `(tactic| repeat (first | walk_at "s1" | walk_at "s2" | walk_at "sx"))
local macro_rules | `(tactic| walk_at "g1") => `(tactic| with_reducible first
  | refine ew_tup2 ?_ | refine ew_tup3 ?_ | refine ew_tup4 ?_ | refine ew_fldI ?_ | refine sw_fldA ?_ | refine ew_dget1 ?_ | refine ew_dget2 ?_ | refine ow_isN ?_)
local macro_rules | `(tactic| walk_at "g2") => `(tactic| first
  | ((with_reducible refine' gw_tup ?e ?_); (case e => exact rfl))
  | ((with_reducible refine' oi_L ?e ?_); (case e => exact rfl))
  | ((refine' Exists.intro _ (And.intro ?cl (And.intro ?na (And.intro ?e ?_)))); (case cl => assumption); (case na => assumption); (case e => exact rfl))
  | ((refine' Exists.intro _ (Exists.intro _ (Exists.intro _ (Exists.intro _ (And.intro ?e (And.intro ?hm (And.intro ?cl (And.intro ?na (And.intro ?l ?_))))))))); (case e => exact rfl); (case hm => walk_at "m"); (case cl => assumption); (case na => assumption); (case l => exact Nat.le_of_ble_eq_true rfl)))
local macro_rules | `(tactic| walk_at "g") => `(tactic| repeat (first | walk_at "s1" | walk_at "s2" | walk_at "sx" | walk_at "g1" | walk_at "g2"))

section
variable {P : Program} {w : World} {K : PySem.W.Frag} {mg : Str → Option Value} {base : Heap} {a : Ads}
theorem bits_lt {i : Int} {b : Nat} (h0 : 0 ≤ i) (h : i < 2 ^ b) : Builtin.Int.intBits i ≤ b := by
  have e : ((2 ^ b : Nat) : Int) = (2 : Int) ^ b := by first | exact Int.natCast_pow 2 b | simp
  rw [← e] at h
  exact intBits_le_iff.mpr (by omega)
theorem pow3_ok {i : Int} (b : Nat) (hb : 3 * b ≤ 2 ^ 27) (h0 : 0 ≤ i) (h : i < 2 ^ b) : CPowW i 3 := ⟨by decide, by have := bits_lt h0 h; omega⟩
def Kit (n : Nat) (c : Cell) : Prop := ∃ a b e : Int, c = .lst [.int a, .int b, .int e] ∧ 0 ≤ a ∧ 0 ≤ b ∧ b < 2 ^ 63 ∧ 0 ≤ e ∧ e ≤ n
theorem Kit.up {n n' : Nat} {c : Cell} (h : Kit n c) (l : n ≤ n') : Kit n' c := let ⟨a, b, e, h1, h2, h3, h4, h5, h6⟩ := h; ⟨a, b, e, h1, h2, h3, h4, h5, by omega⟩
def F_toss : FS := fun ds m Q => ∃ (p : Addr) (c : Cell) (rest : Mem) (n : Nat) (span : Int), ds = [.adr p, .int span] ∧ m = (p, c) :: rest ∧ Kit n c ∧ n < 2 ^ 40 ∧ 0 < span ∧ span < 2 ^ 200 ∧
  ∀ (r : Int) (c' : Cell), 0 ≤ r → r < span → Kit (n + 1) c' → Q (.int r) ((p, c') :: rest)
theorem ok__law_toss (T : Txt K mg a) : Def P w K mg base 2 a.f__law_toss ["kit", "many"] (FSn 2 (F_toss)) := by
  have nd := sc__law_toss.nd
  refine defOk T.h__law_toss sc__law_toss (fun _ _ _ h => h.1) (fun cdv A outer s H E hr => by exact (pss_cons (ps_if (pt_cmpR op_gt (pe_ix (kx_ix K rfl hr.units) (pv 0) pe_int (fun _ _ => rfl)) pe_int (nomark _)) (pss_cons (ps_set (i := 2) nd rfl (Or.inl rfl) (pe_op op_mod (pe_callTy cr_int1 (by rfl) T.n_int (by decide +kernel) (pa_cons (pe_ix (kx_ix K rfl hr.units) (pv 0) pe_int (fun _ _ => rfl)) pa_nil)) (pv 1)))
    (pss_cons (ps_asg (pe_op op_fdivW (pe_ix (kx_ix K rfl hr.units) (pv 0) pe_int (fun _ _ => rfl)) (pv 1)) (pg_sub (pv 0) pe_int set_list))
    (pss_one (ps_ret (pv 2))))) pss_nil)
    (pss_cons (ps_asg (pe_op op_addU (pe_ix (kx_ix K rfl hr.units) (pv 0) pe_int (fun _ _ => rfl)) pe_int) (pg_sub (pv 0) pe_int set_list))
    (pss_cons (ps_set (i := 3) nd rfl (Or.inl rfl) (pe_op op_addU (pe_op op_powW (pe_op op_addU (pe_ix (kx_ix K rfl hr.units) (pv 0) pe_int (fun _ _ => rfl)) (pe_op op_mulU pe_int (pe_ix (kx_ix K rfl hr.units) (pv 0) pe_int (fun _ _ => rfl)))) pe_int) (pe_op op_mulU pe_int (pe_ix (kx_ix K rfl hr.units) (pv 0) pe_int (fun _ _ => rfl)))))
    (pss_cons (ps_set (i := 3) nd rfl (Or.inl rfl) (pe_op op_addU (pe_op op_mod (pe_callTy cr_int1 (by rfl) T.n_int (by decide +kernel) (pa_cons (pv 3) pa_nil)) pe_int) (pe_op op_mulU pe_int (pe_ix (kx_ix K rfl hr.units) (pv 0) pe_int (fun _ _ => rfl)))))
    (pss_cons (ps_set (i := 3) nd rfl (Or.inl rfl) (pe_op op_mod (pe_callTy cr_int1 (by rfl) T.n_int (by decide +kernel) (pa_cons (pe_op op_powW (pv 3) pe_int) pa_nil)) pe_int))
    (pss_one (ps_ret (pe_op op_mod (pe_callTy cr_int1 (by rfl) T.n_int (by decide +kernel) (pa_cons (pe_op op_fdivW (pv 3) pe_int) pa_nil)) (pv 1)))))))))) (fun ds m Q h => ?_)
  replace h := h.2
  clear nd
  obtain ⟨p, c, rest, n, span, rfl, rfl, ⟨a, b, e, rfl, a0, b0, b1, e0, e1⟩, hn, s0, s1, q⟩ := h
  have dr : ∀ x : Int, 0 ≤ x % span ∧ x % span < span := fun x => ⟨Int.emod_nonneg _ (by omega), Int.emod_lt_of_pos _ s0⟩
  have hd : CDivW a span := wide_div (b := 200) s0 (by omega) (by decide) (by decide)
  walk_at "s"
  refine sw_if ?_
  walk_at "s"
  refine iteD (fun hp => ?_) (fun hp => ?_)
  · walk_at "s"
    refine ow_ic s0 ?_
    walk_at "s"
    refine ow_ic hd ?_
    walk_at "s"
    exact q _ _ (dr _).1 (dr _).2 ⟨_, b, e, rfl, Int.ediv_nonneg a0 (by omega), b0, b1, e0, by omega⟩
  · walk_at "s"
    refine ow_mul2 (by omega) ?_
    walk_at "s"
    refine ow_ic (pow3_ok 110 (by decide) (by omega) (by omega)) ?_
    walk_at "s"
    refine ow_mul2 (by omega) ?_
    walk_at "s"
    refine ow_ic (by decide) ?_
    walk_at "s"
    refine ow_mul2 (by omega) ?_
    walk_at "s"
    generalize hX : ((b + 6700417 * (e + 1)) ^ (3 : Int).toNat + 97 * (e + 1)) = X
    have t0 : 0 ≤ X % 2305843009213693951 := Int.emod_nonneg _ (by decide)
    have t1 : X % 2305843009213693951 < 2305843009213693951 := Int.emod_lt_of_pos _ (by decide)
    refine ow_ic (pow3_ok 110 (by decide) (by omega) (by omega)) ?_
    walk_at "s"
    refine ow_ic (by decide) ?_
    walk_at "s"
    refine ow_ic (wide_div (b := 18) (by decide) (by decide) (by decide) (by decide)) ?_
    walk_at "s"
    refine ow_ic s0 ?_
    exact q _ _ (dr _).1 (dr _).2 ⟨a, b, e + 1, rfl, a0, b0, b1, by omega, by omega⟩
theorem use_toss {p : Addr} {c : Cell} {rest : Mem} {n : Nat} {span : Int} {Q : D → Mem → Prop} (hk : Kit n c) (hn : n < 2 ^ 40) (s0 : 0 < span) (s1 : span < 2 ^ 200) (q : ∀ (r : Nat) (c' : Cell), (r : Int) < span → Kit (n + 1) c' → Q (.int (r : Nat)) ((p, c') :: rest)) : FSn 2 F_toss [.adr p, .int span] ((p, c) :: rest) Q :=
  ⟨rfl, p, c, rest, n, span, rfl, rfl, hk, hn, s0, s1, fun r c' r0 r1 hk' => by
    have := q r.toNat c' (by omega) hk'
    rwa [show ((r.toNat : Nat) : Int) = r by omega] at this⟩
def F_kit : FS := fun ds m Q => ∃ (ns : List Int) (pl : Int), ds = [.scr ns, .int pl] ∧ 0 ≤ pl ∧ pl < 2 ^ 20 ∧ ∀ (p : Addr) (c : Cell), Kit 0 c → Q (.adr p) (m ++ [(p, c)])
theorem ok__law_kit (T : Txt K mg a) : Def P w K mg base 2 a.f__law_kit ["script", "place"] (FSn 2 (F_kit)) := by
  have nd := sc__law_kit.nd
  refine defOk T.h__law_kit sc__law_kit (fun _ _ _ h => h.1) (fun cdv A outer s H E hr => by exact (pss_cons (ps_set (i := 2) nd rfl (Or.inl rfl) pe_int)
    (pss_cons (ps_if (pt_cmpR op_lt (pv 1) (pe_callB (kx_len K rfl) (by rfl) T.n_len (by decide +kernel) (pa_cons (pv 0) pa_nil)) (nomark _)) (pss_one (ps_set (i := 2) nd rfl (Or.inl rfl) (pe_ix (kx_ix K rfl hr.units) (pv 0) (pv 1) (fun _ _ => rfl)))) pss_nil)
    (pss_cons (ps_set (i := 3) nd rfl (Or.inl rfl) (pe_op op_mod (pe_callTy cr_int1 (by rfl) T.n_int (by decide +kernel) (pa_cons (pe_op op_addU (pe_op op_mulU (pe_callB cr_abs (by rfl) T.n_abs (by decide +kernel) (pa_cons (pv 2) pa_nil)) pe_int) (pe_callTy cr_int1 (by rfl) T.n_int (by decide +kernel) (pa_cons (pe_cmpR op_lt (pv 2) pe_int (nomark _)) pa_nil))) pa_nil)) pe_int))
    (pss_one (ps_ret (pe_lst (pa_cons (pe_op op_mulU (pv 2) (pe_callTy cr_int1 (by rfl) T.n_int (by decide +kernel) (pa_cons (pe_cmpR op_ge (pv 2) (pe_op op_powW pe_int pe_int) (nomark _)) pa_nil))) (pa_cons (pe_op op_addU (pv 3) (pe_op op_mulU pe_int (pv 1))) (pa_cons pe_int pa_nil)))))))))) (fun ds m Q h => ?_)
  replace h := h.2
  clear nd
  obtain ⟨ns, pl, rfl, p0, p1, q⟩ := h
  walk_at "s"
  refine sw_ifJ (fun δ' m' => m' = m ∧ ∃ sd : Int, δ' = [some (.scr ns), some (.int pl), some (.int sd), none]) ?_ ?_
  · walk_at "s"
    refine iteD (fun hp => ?_) (fun hp => ?_)
    · walk_at "s"
      have hl : pl.toNat < ns.length := by omega
      refine ow_ixR (n := ns[pl.toNat]) (atI_lt p0 (List.getElem?_eq_getElem hl)) ?_
      walk_at "s"
      exact ⟨rfl, _, rfl⟩
    · walk_at "s"
      exact ⟨rfl, _, rfl⟩
  · rintro δ' m' ⟨rfl, sd, rfl⟩
    walk_at "s"
    refine ow_mul1 (by decide) ?_
    walk_at "s"
    refine ow_ic (by decide) ?_
    walk_at "s"
    generalize hX : ((if sd < 0 then -sd else sd) * 2 + if decide (sd < 0) = true then 1 else 0) = X
    have t0 : 0 ≤ X % 2305843009213693951 := Int.emod_nonneg _ (by decide)
    have t1 : X % 2305843009213693951 < 2305843009213693951 := Int.emod_lt_of_pos _ (by decide)
    refine ew_lstM ?_
    walk_at "s"
    refine ow_ic ⟨by decide, by decide⟩ ?_
    walk_at "s"
    refine ow_mul1 (by split <;> decide) ?_
    walk_at "s"
    refine ow_mul2 (by decide) ?_
    walk_at "s"
    refine ⟨Nat.le_of_ble_eq_true rfl, fun p => q p _ ⟨_, _, 0, rfl, ?_, by omega, by omega, Int.le_refl _, by decide⟩⟩
    by_cases h : (10 : Int) ^ (18 : Int).toNat ≤ sd
    · rw [decide_eq_true h, if_pos rfl, Int.mul_one]
      exact Int.le_trans (by decide) h
    · rw [decide_eq_false h, if_neg Bool.false_ne_true, Int.mul_zero]
      exact Int.le_refl _
theorem tk {p : Addr} {c : Cell} {rest : Mem} {n : Nat} {span : Int} {Q : D → Mem → Prop} (hk : Kit n c) (q : ∀ (r : Nat) (c' : Cell), (r : Int) < span → Kit (n + 1) c' → Q (.int (r : Nat)) ((p, c') :: rest))
    (hn : n < 2 ^ 40 := by omega) (s0 : 0 < span := by first | omega | decide) (s1 : span < 2 ^ 200 := by first | omega | decide) : FSn 2 F_toss [.adr p, .int span] ((p, c) :: rest) Q := use_toss hk hn s0 s1 q

end
end DL

set_option Elab.async false
set_option linter.all false
set_option maxRecDepth 100000
set_option maxHeartbeats 4000000
set_option autoImplicit false
namespace DL
open PySem PySem.Spec PyProof.Rows L2
local macro_rules | `(tactic| walk_at "m") => `(tactic| first
  | with_reducible exact MAt.last | with_reducible exact MUp.last
  | exact MAt.zero | exact MUp.zero | exact MAt.last | exact MUp.last
  | (apply MAt.cons; walk_at "m") | (apply MUp.cons; walk_at "m")
  | (apply MAt.app; walk_at "m") | (apply MUp.app; walk_at "m")
  | assumption)
local macro_rules | `(tactic| walk_at "s1") => `(tactic| with_reducible first
  | refine sw_seq ?_ | refine sw_next ?_ | refine sw_ret ?_ | refine sw_retN ?_ | refine sw_asg ?_ | refine sw_asgG ?_ | refine sw_drop ?_ | refine sw_break ?_ | refine sw_cont ?_ | refine sw_par ?_ | refine sw_par3 ?_
  | refine tw_test ?_ | refine tw_B ?_ | refine tw_and ?_ | refine tw_or ?_ | refine tw_not ?_ | refine tw_yes ?_
  | refine ew_op ?_ | refine ew_un ?_ | refine ew_int ?_ | refine ew_non ?_ | refine ew_bl ?_ | refine ew_str ?_ | refine ew_ty ?_ | refine ew_ref ?_ | refine ew_cb ?_ | refine ew_if ?_ | refine ew_andV ?_ | refine ew_orV ?_ | refine ew_notV ?_ | refine ew_chain ?_ | refine ew_sl ?_ | refine pw_no ?_ | refine pw_part ?_
  | refine ew_call0 ?_ | refine ew_kw0 ?_
  | refine aw_nil ?_ | refine aw_cons ?_ | refine ew_bm ?_ | refine ew_bm0 ?_ | refine gs_L ?_
  | refine gs_nil ?_ | refine gs_cons ?_ | refine gw_name ?_
  | refine ow_addI ?_ | refine ow_odd ?_ | refine ow_i0 ?_ | refine ow_b0 ?_ | refine oq_eqI ?_ | refine oq_neI ?_ | refine oq_eqS ?_ | refine oq_neS ?_ | refine ow_isN ?_ | refine ow_notN ?_ | refine uw_neg ?_ | refine cw_int ?_ | refine cw_intB ?_ | refine cw_abs ?_ | refine cw_mx2 ?_ | refine cw_mn2 ?_ | refine cw_lenL ?_ | refine cw_lenR ?_ | refine cw_listL ?_ | refine cw_listT ?_ | refine lw_L ?_ | refine ew_revL ?_)
local macro_rules | `(tactic| walk_at "s2") => `(tactic| first
  | ((with_reducible refine' ew_var ?hv ?_); (case hv => exact rfl))
  | ((with_reducible refine' oi_M ?hm ?hi ?_); (case hm => walk_at "m"); (case hi => exact rfl))
  | ((with_reducible refine' ow_ixT ?hi ?_); (case hi => exact rfl))
  | ((with_reducible refine' cl_M ?hm ?_); (case hm => walk_at "m"))
  | ((with_reducible refine' ci_M ?hm ?_); (case hm => walk_at "m"))
  | ((with_reducible refine' ma_app ?hm ?ll ?_); (case hm => walk_at "m"); (case ll => walk_at "l"))
  | ((with_reducible refine' And.intro (ty_A ?hm) ?_); (case hm => walk_at "m"))
  | (with_reducible refine' Exists.intro _ (And.intro ?he ?_); (case he => exact rfl))
  | (with_reducible refine' Exists.intro _ (Exists.intro _ (And.intro ?he ?_)); (case he => exact rfl))
  | (with_reducible refine' Exists.intro _ (Exists.intro _ (Exists.intro _ (And.intro ?he ?_))); (case he => exact rfl))
  | ((with_reducible refine' Exists.intro _ (Exists.intro _ (Exists.intro _ (Exists.intro _ (Exists.intro _ (And.intro ?e1 (And.intro ?e2 (And.intro ?hm (And.intro ?hi ?_))))))))); (case e1 => exact rfl); (case e2 => exact rfl); (case hm => walk_at "m"); (case hi => exact rfl)))
local macro_rules | `(tactic| walk_at "l") => `(tactic| first | assumption | exact lt_sz (by omega) | exact lt_sz (by simp only [List.length_map, List.length_append, List.length_cons, List.length_nil, List.length_take, List.length_drop, List.length_range]; omega))
local macro_rules | `(tactic| walk_at "s") => `(tactic| repeat (first | walk_at "s1" | walk_at "s2"))
local macro_rules | `(tactic| walk_at "sx") => `(tactic| with_reducible first
  | refine swx_of ?_ | refine swx_seq ?_ | refine swx_drop ?_ | refine swx_asg ?_ | refine swx_ret ?_ | refine ewx_fun ?_ | refine ewx_meth ?_ | refine ewx_make ?_ | refine ewx_sub ?_)
local macro_rules | `(tactic| walk_at "s") => `(tactic| repeat (first | walk_at "s1" | walk_at "s2" | walk_at "sx"))
local macro_rules | `(tactic| walk_at "g1") => `(tactic| with_reducible first
  | refine ew_tup2 ?_ | refine ew_tup3 ?_ | refine ew_tup4 ?_ | refine ew_fldI ?_ | refine sw_fldA ?_ | refine ew_dget1 ?_ | refine ew_dget2 ?_ | refine ow_isN ?_)
local macro_rules | `(tactic| walk_at "g2") => `(tactic| first
  | ((with_reducible refine' gw_tup ?e ?_); (case e => exact rfl))
  | ((with_reducible refine' oi_L ?e ?_); (case e => exact rfl))
  | ((refine' Exists.intro _ (And.intro ?cl (And.intro ?na (And.intro ?e ?_)))); (case cl => assumption); (case na => assumption); (case e => exact rfl))
  | ((refine' Exists.intro _ (Exists.intro _ (Exists.intro _ (Exists.intro _ (And.intro ?e (And.intro ?hm (And.intro ?cl (And.intro ?na (And.intro ?l ?_))))))))); (case e => exact rfl); (case hm => walk_at "m"); (case cl => assumption); (case na => assumption); (case l => exact Nat.le_of_ble_eq_true rfl)))
local macro_rules | `(tactic| walk_at "g") => `(tactic| repeat (first | walk_at "s1" | walk_at "s2" | walk_at "sx" | walk_at "g1" | walk_at "g2"))

section
variable {P : Program} {w : World} {K : PySem.W.Frag} {mg : Str → Option Value} {base : Heap} {a : Ads}
def LET : Str := "abcdefghijklmnopqrstuvwxyz"
def nameB (x : Str) : Bool := (decide (1 ≤ x.length) && decide (x.length ≤ 8)) && x.cps.toList.all fun c => decide (c ∈ LET.cps.toList)
def F_isname : FS := fun ds m Q => ∃ x : Str, ds = [.str x] ∧ x.length ≤ sizeLine ∧ Q (.bl (nameB x)) m
theorem ok_is_name (T : Txt K mg a) : Def P w K mg base 2 a.f_is_name ["word"] (FSn 1 (F_isname)) := by
  have nd := sc_is_name.nd
  refine defOk T.h_is_name sc_is_name (fun _ _ _ h => h.1) (fun cdv A outer s H E hr => by exact (pss_cons (ps_if (pt_not (pt_val (pe_callB (kx_isi K rfl) (by rfl) T.n_isinstance (by decide +kernel) (pa_cons (pv 0) (pa_cons (pe_bltn (v := .ty "str") (by rfl) T.n_str (by decide +kernel) rfl) pa_nil))))) (pss_one (ps_ret pe_bl)) pss_nil)
    (pss_one (ps_ret (pe_and (pe_chain op_le op_le pe_int (pe_callB (kx_len K rfl) (by rfl) T.n_len (by decide +kernel) (pa_cons (pv 0) pa_nil)) (kx_con T.g_MOST_LETTERS rfl)) (pe_one (pe_callB (kx_all K rfl rfl) (by rfl) T.n_all (by decide +kernel) (pa_cons (pe_lc (own := [("letter", 1)]) (g := (gName 1)) (tt := tYes) rfl nd (pi_str (pv 0)) (blkOk_by (own := [("letter", 1)]) (N := N_is_name) (sc := defScope s_is_name) (by decide +kernel)) (fun _ _ _ _ _ => (pg_name (i := 1) nd rfl (by first | exact Or.inl rfl | exact Or.inr rfl))) (fun _ _ _ _ _ => pts_nil) (fun _ _ _ _ _ => (pe_cmpR (kx_in K rfl P w rfl rfl hr.units) (pv 1) (kx_con T.g_LETTERS rfl) (by with_unfolding_all rfl)))) pa_nil)))))))) (fun ds m Q h => ?_)
  replace h := h.2
  clear nd
  obtain ⟨x, rfl, hx, q⟩ := h
  walk_at "s"
  refine sw_if ?_
  walk_at "s"
  refine cw_isi (n := "str") (b := true) rfl rfl (fun _ h => nomatch h) ?_
  walk_at "s"
  rw [if_neg (by decide)]
  walk_at "s"
  have no : ∀ {b c : Bool}, nameB x = (b && c) → b = false → Q (.bl false) m := fun {b c} e hb => by
    rw [e, hb] at q
    exact q
  refine cw_lenS hx ?_
  walk_at "s"
  refine iteD (fun h1 => ?_) (fun h1 => ?_)
  · walk_at "s"
    refine iteD (fun h2 => ?_) (fun h2 => ?_)
    · walk_at "s"
      refine ew_lcF (tame_name (by decide)) (iw_str ?_)
      walk_at "s"
      refine ⟨Nat, x.cps.toList, fun c => .str ⟨#[c]⟩, fun c => .bl (decide (c ∈ LET.cps.toList)), rfl, ?_, ?_, ?_⟩
      · exact le_sz (by have e : x.length = x.cps.toList.length := by simp [Str.length]
                        omega)
      · intro c acc z hc
        walk_at "s"
        refine ⟨rfl, ?_⟩
        walk_at "s"
        refine in_sg ?_
        exact ⟨rfl, rfl⟩
      · walk_at "s"
        have e : (x.cps.toList.map fun c => D.bl (decide (c ∈ LET.cps.toList))) = (x.cps.toList.map fun c => decide (c ∈ LET.cps.toList)).map D.bl := by rw [List.map_map]; rfl
        rw [e]
        refine cw_all ?_
        have e2 : ((x.cps.toList.map fun c => decide (c ∈ LET.cps.toList)).all id) = nameB x := by
          unfold nameB
          rw [List.all_map, decide_eq_true (by omega : 1 ≤ x.length), decide_eq_true (by omega : x.length ≤ 8)]
          rfl
        rw [e2]
        exact q
    · refine no (b := decide (1 ≤ x.length) && decide (x.length ≤ 8)) rfl ?_
      rw [decide_eq_false (by omega : ¬ x.length ≤ 8), Bool.and_false]
  · walk_at "s"
    refine no (b := decide (1 ≤ x.length) && decide (x.length ≤ 8)) rfl ?_
    rw [decide_eq_false (by omega : ¬ 1 ≤ x.length), Bool.false_and]
theorem nameB_len {x : Str} (h : nameB x = true) : x.length ≤ 8 := by
  unfold nameB at h
  rw [Bool.and_eq_true, Bool.and_eq_true] at h
  exact of_decide_eq_true h.1.2
theorem use_isname {x : Str} {m : Mem} {Q : D → Mem → Prop} (h : x.length ≤ sizeLine) (q : Q (.bl (nameB x)) m) : FSn 1 F_isname [.str x] m Q := ⟨rfl, x, rfl, h, q⟩
def F_cname (iN : Addr) : FX := fun ds m Q R => ∃ x : Str, ds = [.str x] ∧ x.length ≤ sizeLine ∧ (nameB x = false → R iN (.str x) m) ∧ (nameB x = true → Q .non m)
theorem ok_CutError___init__ (T : Txt K mg a) : InitX P w K mg base 2 a.f_CutError___init__ := initX T.h_CutError___init__ sc_CutError___init__ (fun cdv A outer s H E => by exact pss_one (ps_ost (pv 0) (pv 1)))
theorem okx_check_name (T : Txt K mg a) : DefX P w K mg base 4 a.f_check_name ["word"] (FXn 1 (F_cname a.c_InvalidName)) := by
  have nd := sc_check_name.nd
  have C_is_name := ok_is_name (P := P) (w := w) (base := base) T
  have C_CutError___init__ := ok_CutError___init__ (P := P) (w := w) (base := base) T
  refine defOkX T.h_check_name sc_check_name (fun _ _ _ _ h => h.1) (fun W cdv A outer s H E hr tkW own => ⟨_, (pss_one (ps_if (pt_not (pt_val (kx_def K rfl C_is_name (hr.mono (by decide)) rfl T.g_is_name T.k_is_name (pa_cons (pv 0) pa_nil)))) (pss_one (kx_raise K rfl rfl tkW T.er_InvalidName C_CutError___init__ (hr.mono (by decide)) rfl T.g_InvalidName (pa_cons (pv 0) pa_nil))) pss_nil)), rfl⟩) (fun ds m Q R h => ?_)
  replace h := h.2
  clear nd
  have er := T.er_InvalidName
  obtain ⟨x, rfl, hx, r, q⟩ := h
  refine swx_if ?_
  walk_at "g"
  refine use_isname hx ?_
  walk_at "g"
  refine iteB (fun h => ?_) (fun h => ?_)
  · have h : nameB x = false := by simpa using h
    refine swx_raise er ?_
    walk_at "g"
    exact r h
  · have h : nameB x = true := by simpa using h
    walk_at "g"
    exact q h
theorem ok_check_name (T : Txt K mg a) : Def P w K mg base 4 a.f_check_name ["word"] (FX.quiet (FXn 1 (F_cname a.c_InvalidName))) := (okx_check_name (P := P) (w := w) (base := base) T).quiet

end
end DL

set_option Elab.async false
set_option linter.all false
set_option maxRecDepth 100000
set_option maxHeartbeats 4000000
set_option autoImplicit false
namespace DL
open PySem PySem.Spec PyProof.Rows L2
local macro_rules | `(tactic| walk_at "m") => `(tactic| first
  | with_reducible exact MAt.last | with_reducible exact MUp.last
  | exact MAt.zero | exact MUp.zero | exact MAt.last | exact MUp.last
  | (apply MAt.cons; walk_at "m") | (apply MUp.cons; walk_at "m")
  | (apply MAt.app; walk_at "m") | (apply MUp.app; walk_at "m")
  | assumption)
local macro_rules | `(tactic| walk_at "s1") => `(tactic| with_reducible first
  | refine sw_seq ?_ | refine sw_next ?_ | refine sw_ret ?_ | refine sw_retN ?_ | refine sw_asg ?_ | refine sw_asgG ?_ | refine sw_drop ?_ | refine sw_break ?_ | refine sw_cont ?_ | refine sw_par ?_ | refine sw_par3 ?_
  | refine tw_test ?_ | refine tw_B ?_ | refine tw_and ?_ | refine tw_or ?_ | refine tw_not ?_ | refine tw_yes ?_
  | refine ew_op ?_ | refine ew_un ?_ | refine ew_int ?_ | refine ew_non ?_ | refine ew_bl ?_ | refine ew_str ?_ | refine ew_ty ?_ | refine ew_ref ?_ | refine ew_cb ?_ | refine ew_if ?_ | refine ew_andV ?_ | refine ew_orV ?_ | refine ew_notV ?_ | refine ew_chain ?_ | refine ew_sl ?_ | refine pw_no ?_ | refine pw_part ?_
  | refine ew_call0 ?_ | refine ew_kw0 ?_
  | refine aw_nil ?_ | refine aw_cons ?_ | refine ew_bm ?_ | refine ew_bm0 ?_ | refine gs_L ?_
  | refine gs_nil ?_ | refine gs_cons ?_ | refine gw_name ?_
  | refine ow_addI ?_ | refine ow_odd ?_ | refine ow_i0 ?_ | refine ow_b0 ?_ | refine oq_eqI ?_ | refine oq_neI ?_ | refine oq_eqS ?_ | refine oq_neS ?_ | refine ow_isN ?_ | refine ow_notN ?_ | refine uw_neg ?_ | refine cw_int ?_ | refine cw_intB ?_ | refine cw_abs ?_ | refine cw_mx2 ?_ | refine cw_mn2 ?_ | refine cw_lenL ?_ | refine cw_lenR ?_ | refine cw_listL ?_ | refine cw_listT ?_ | refine lw_L ?_ | refine ew_revL ?_)
local macro_rules | `(tactic| walk_at "s2") => `(tactic| first
  | ((with_reducible refine' ew_var ?hv ?_); (case hv => exact rfl))
  | ((with_reducible refine' oi_M ?hm ?hi ?_); (case hm => walk_at "m"); (case hi => exact rfl))
  | ((with_reducible refine' ow_ixT ?hi ?_); (case hi => exact rfl))
  | ((with_reducible refine' cl_M ?hm ?_); (case hm => walk_at "m"))
  | ((with_reducible refine' ci_M ?hm ?_); (case hm => walk_at "m"))
  | ((with_reducible refine' ma_app ?hm ?ll ?_); (case hm => walk_at "m"); (case ll => walk_at "l"))
  | ((with_reducible refine' And.intro (ty_A ?hm) ?_); (case hm => walk_at "m"))
  | (with_reducible refine' Exists.intro _ (And.intro ?he ?_); (case he => exact rfl))
  | (with_reducible refine' Exists.intro _ (Exists.intro _ (And.intro ?he ?_)); (case he => exact rfl))
  | (with_reducible refine' Exists.intro _ (Exists.intro _ (Exists.intro _ (And.intro ?he ?_))); (case he => exact rfl))
  | ((with_reducible refine' Exists.intro _ (Exists.intro _ (Exists.intro _ (Exists.intro _ (Exists.intro _ (And.intro ?e1 (And.intro ?e2 (And.intro ?hm (And.intro ?hi ?_))))))))); (case e1 => exact rfl); (case e2 => exact rfl); (case hm => walk_at "m"); (case hi => exact rfl)))
local macro_rules | `(tactic| walk_at "l") => `(tactic| first | assumption | exact lt_sz (by omega) | exact lt_sz (by simp only [List.length_map, List.length_append, List.length_cons, List.length_nil, List.length_take, List.length_drop, List.length_range]; omega))
local macro_rules | `(tactic| walk_at "s") => `(tactic| repeat (first | walk_at "s1" | walk_at "s2"))
local macro_rules | `(tactic| walk_at "sx") => `(tactic| with_reducible first
  | refine swx_of ?_ | refine swx_seq ?_ | refine swx_drop ?_ | refine swx_asg ?_ | refine swx_ret ?_ | refine ewx_fun ?_ | refine ewx_meth ?_ | refine ewx_make ?_ | refine ewx_sub ?_)
local macro_rules | `(tactic| walk_at "s") => `(tactic| repeat (first | walk_at "s1" | walk_at "s2" | walk_at "sx"))
local macro_rules | `(tactic| walk_at "g1") => `(tactic| with_reducible first
  | refine ew_tup2 ?_ | refine ew_tup3 ?_ | refine ew_tup4 ?_ | refine ew_fldI ?_ | refine sw_fldA ?_ | refine ew_dget1 ?_ | refine ew_dget2 ?_ | refine ow_isN ?_)
local macro_rules | `(tactic| walk_at "g2") => `(tactic| first
  | ((with_reducible refine' gw_tup ?e ?_); (case e => exact rfl))
  | ((with_reducible refine' oi_L ?e ?_); (case e => exact rfl))
  | ((refine' Exists.intro _ (And.intro ?cl (And.intro ?na (And.intro ?e ?_)))); (case cl => assumption); (case na => assumption); (case e => exact rfl))
  | ((refine' Exists.intro _ (Exists.intro _ (Exists.intro _ (Exists.intro _ (And.intro ?e (And.intro ?hm (And.intro ?cl (And.intro ?na (And.intro ?l ?_))))))))); (case e => exact rfl); (case hm => walk_at "m"); (case cl => assumption); (case na => assumption); (case l => exact Nat.le_of_ble_eq_true rfl)))
local macro_rules | `(tactic| walk_at "g") => `(tactic| repeat (first | walk_at "s1" | walk_at "s2" | walk_at "sx" | walk_at "g1" | walk_at "g2"))

section
variable {P : Program} {w : World} {K : PySem.W.Frag} {mg : Str → Option Value} {base : Heap} {a : Ads}
/-- unlike names -/
structure Tags (k : Nat) (ws : List Str) : Prop where
  len : ws.length = k
  nd : ws.Nodup
  nm : ∀ x ∈ ws, nameB x = true
theorem LET_ok : ∀ c ∈ LET.cps.toList, c < 1114112 := by decide +kernel
theorem name_ok {x : Str} (h : nameB x = true) : PyData.strOk x = true := by
  unfold nameB at h
  rw [Bool.and_eq_true, List.all_eq_true] at h
  unfold PyData.strOk
  rw [Array.all_eq_true']
  intro c hc
  have := h.2 c (by simpa using hc)
  exact decide_eq_true (LET_ok c (of_decide_eq_true this))
theorem name_of {x : Str} {cs : List Nat} (e : x.cps.toList = cs) (h1 : 1 ≤ cs.length) (h8 : cs.length ≤ 8) (hc : ∀ c ∈ cs, c ∈ LET.cps.toList) : nameB x = true := by
  have l : x.length = cs.length := by rw [← e]; simp [Str.length]
  unfold nameB
  rw [l, decide_eq_true h1, decide_eq_true h8, e, Bool.and_self, Bool.true_and, List.all_eq_true]
  exact fun c h => decide_eq_true (hc c h)
theorem nd_mapOn {α β : Type} {f : α → β} {l : List α} (inj : ∀ a ∈ l, ∀ b ∈ l, f a = f b → a = b) (h : l.Nodup) : (l.map f).Nodup := by
  refine List.pairwise_map.mpr ?_
  refine List.Pairwise.imp_of_mem (fun ha hb ne e => ne (inj _ ha _ hb e)) h
theorem mulOk1 (c : Nat) {n : Int} (h1 : 1 ≤ n) (h8 : n ≤ 8) : PySem.MulOk ⟨#[c]⟩ n := by
  rcases (by omega : n = 1 ∨ n = 2 ∨ n = 3 ∨ n = 4 ∨ n = 5 ∨ n = 6 ∨ n = 7 ∨ n = 8) with rfl | rfl | rfl | rfl | rfl | rfl | rfl | rfl <;>
  exact ⟨rfl, fun _ _ => by show ¬ ((1 : Int) > _); decide, fun _ _ => rfl⟩

end
end DL

set_option Elab.async false
set_option linter.all false
set_option maxRecDepth 100000
set_option maxHeartbeats 4000000
set_option autoImplicit false
namespace DL
open PySem PySem.Spec PyProof.Rows L2
local macro_rules | `(tactic| walk_at "m") => `(tactic| first
  | with_reducible exact MAt.last | with_reducible exact MUp.last
  | exact MAt.zero | exact MUp.zero | exact MAt.last | exact MUp.last
  | (apply MAt.cons; walk_at "m") | (apply MUp.cons; walk_at "m")
  | (apply MAt.app; walk_at "m") | (apply MUp.app; walk_at "m")
  | assumption)
local macro_rules | `(tactic| walk_at "s1") => `(tactic| with_reducible first
  | refine sw_seq ?_ | refine sw_next ?_ | refine sw_ret ?_ | refine sw_retN ?_ | refine sw_asg ?_ | refine sw_asgG ?_ | refine sw_drop ?_ | refine sw_break ?_ | refine sw_cont ?_ | refine sw_par ?_ | refine sw_par3 ?_
  | refine tw_test ?_ | refine tw_B ?_ | refine tw_and ?_ | refine tw_or ?_ | refine tw_not ?_ | refine tw_yes ?_
  | refine ew_op ?_ | refine ew_un ?_ | refine ew_int ?_ | refine ew_non ?_ | refine ew_bl ?_ | refine ew_str ?_ | refine ew_ty ?_ | refine ew_ref ?_ | refine ew_cb ?_ | refine ew_if ?_ | refine ew_andV ?_ | refine ew_orV ?_ | refine ew_notV ?_ | refine ew_chain ?_ | refine ew_sl ?_ | refine pw_no ?_ | refine pw_part ?_
  | refine ew_call0 ?_ | refine ew_kw0 ?_
  | refine aw_nil ?_ | refine aw_cons ?_ | refine ew_bm ?_ | refine ew_bm0 ?_ | refine gs_L ?_
  | refine gs_nil ?_ | refine gs_cons ?_ | refine gw_name ?_
  | refine ow_addI ?_ | refine ow_odd ?_ | refine ow_i0 ?_ | refine ow_b0 ?_ | refine oq_eqI ?_ | refine oq_neI ?_ | refine oq_eqS ?_ | refine oq_neS ?_ | refine ow_isN ?_ | refine ow_notN ?_ | refine uw_neg ?_ | refine cw_int ?_ | refine cw_intB ?_ | refine cw_abs ?_ | refine cw_mx2 ?_ | refine cw_mn2 ?_ | refine cw_lenL ?_ | refine cw_lenR ?_ | refine cw_listL ?_ | refine cw_listT ?_ | refine lw_L ?_ | refine ew_revL ?_)
local macro_rules | `(tactic| walk_at "s2") => `(tactic| first
  | ((with_reducible refine' ew_var ?hv ?_); (case hv => exact rfl))
  | ((with_reducible refine' oi_M ?hm ?hi ?_); (case hm => walk_at "m"); (case hi => exact rfl))
  | ((with_reducible refine' ow_ixT ?hi ?_); (case hi => exact rfl))
  | ((with_reducible refine' cl_M ?hm ?_); (case hm => walk_at "m"))
  | ((with_reducible refine' ci_M ?hm ?_); (case hm => walk_at "m"))
  | ((with_reducible refine' ma_app ?hm ?ll ?_); (case hm => walk_at "m"); (case ll => walk_at "l"))
  | ((with_reducible refine' And.intro (ty_A ?hm) ?_); (case hm => walk_at "m"))
  | (with_reducible refine' Exists.intro _ (And.intro ?he ?_); (case he => exact rfl))
  | (with_reducible refine' Exists.intro _ (Exists.intro _ (And.intro ?he ?_)); (case he => exact rfl))
  | (with_reducible refine' Exists.intro _ (Exists.intro _ (Exists.intro _ (And.intro ?he ?_))); (case he => exact rfl))
  | ((with_reducible refine' Exists.intro _ (Exists.intro _ (Exists.intro _ (Exists.intro _ (Exists.intro _ (And.intro ?e1 (And.intro ?e2 (And.intro ?hm (And.intro ?hi ?_))))))))); (case e1 => exact rfl); (case e2 => exact rfl); (case hm => walk_at "m"); (case hi => exact rfl)))
local macro_rules | `(tactic| walk_at "l") => `(tactic| first | assumption | exact lt_sz (by omega) | exact lt_sz (by simp only [List.length_map, List.length_append, List.length_cons, List.length_nil, List.length_take, List.length_drop, List.length_range]; omega))
local macro_rules | `(tactic| walk_at "s") => `(tactic| repeat (first | walk_at "s1" | walk_at "s2"))
local macro_rules | `(tactic| walk_at "sx") => `(tactic| with_reducible first
  | refine swx_of ?_ | refine swx_seq ?_ | refine swx_drop ?_ | refine swx_asg ?_ | refine swx_ret ?_ | refine ewx_fun ?_ | refine ewx_meth ?_ | refine ewx_make ?_ | refine ewx_sub ?_)
local macro_rules | `(tactic| walk_at "s") => `(tactic| repeat (first | walk_at "s1" | walk_at "s2" | walk_at "sx"))
local macro_rules | `(tactic| walk_at "g1") => `(tactic| with_reducible first
  | refine ew_tup2 ?_ | refine ew_tup3 ?_ | refine ew_tup4 ?_ | refine ew_fldI ?_ | refine sw_fldA ?_ | refine ew_dget1 ?_ | refine ew_dget2 ?_ | refine ow_isN ?_)
local macro_rules | `(tactic| walk_at "g2") => `(tactic| first
  | ((with_reducible refine' gw_tup ?e ?_); (case e => exact rfl))
  | ((with_reducible refine' oi_L ?e ?_); (case e => exact rfl))
  | ((refine' Exists.intro _ (And.intro ?cl (And.intro ?na (And.intro ?e ?_)))); (case cl => assumption); (case na => assumption); (case e => exact rfl))
  | ((refine' Exists.intro _ (Exists.intro _ (Exists.intro _ (Exists.intro _ (And.intro ?e (And.intro ?hm (And.intro ?cl (And.intro ?na (And.intro ?l ?_))))))))); (case e => exact rfl); (case hm => walk_at "m"); (case cl => assumption); (case na => assumption); (case l => exact Nat.le_of_ble_eq_true rfl)))
local macro_rules | `(tactic| walk_at "g") => `(tactic| repeat (first | walk_at "s1" | walk_at "s2" | walk_at "sx" | walk_at "g1" | walk_at "g2"))

section
variable {P : Program} {w : World} {K : PySem.W.Frag} {mg : Str → Option Value} {base : Heap} {a : Ads}
theorem LET_at (i : Nat) (h : i < 26) : ∃ c, L2.atI LET.cps.toList ((i : Nat) : Int) = some c ∧ LET.cps.toList[i]? = some c ∧ c ∈ LET.cps.toList := by
  have hl : LET.cps.toList.length = 26 := by decide +kernel
  have hi : i < LET.cps.toList.length := by omega
  have e : LET.cps.toList[i]? = some LET.cps.toList[i] := List.getElem?_eq_getElem hi
  exact ⟨_, atI_lt (Int.natCast_nonneg i) (by rw [Int.toNat_natCast]; exact e), e, List.getElem_mem hi⟩
abbrev chS (c : Nat) : Str := ⟨#[c]⟩
theorem app_cps (a b : Str) : (a ++ b).cps.toList = a.cps.toList ++ b.cps.toList := by
  show (a.cps ++ b.cps).toList = _
  simp
theorem join_chs : ∀ cs : List Nat, (Str.join "" (cs.map chS)).cps.toList = cs
  | [] => rfl
  | [c] => rfl
  | c :: d :: cs => by
    have ih := join_chs (d :: cs)
    show ((chS c ++ "") ++ Str.join "" ((d :: cs).map chS)).cps.toList = _
    rw [app_cps, app_cps, ih]
    rfl
theorem join_chs2 (cs : List Nat) : (Txt.join "" (cs.map chS)).cps.toList = cs := by
  have := join_closes (sep := "") (sep' := "") (ys := cs.map chS) rfl
  rw [beq_iff_eq.mp this]
  exact join_chs cs
theorem chs_sum (cs : List Nat) : ((cs.map chS).map (·.length)).sum = cs.length := by
  induction cs with
  | nil => rfl
  | cons c cs ih =>
    rw [List.map_cons, List.map_cons, List.sum_cons, ih, List.length_cons]
    have : (chS c).length = 1 := rfl
    omega
theorem cutS_to {z : Str} {i : Nat} : (cutS z none (some ((i : Nat) : Int))).cps.toList = z.cps.toList.take i := by
  unfold cutS
  rw [HT.sIx_none, HT.sIx_nat]
  have hl : z.length = z.cps.toList.length := by simp [Str.length]
  simp only [Nat.sub_zero, List.drop_zero]
  rw [List.take_eq_take_iff]
  omega
theorem cutS_from {z : Str} {i : Nat} : (cutS z (some ((i : Nat) : Int)) none).cps.toList = z.cps.toList.drop i := by
  unfold cutS
  rw [HT.sIx_none, HT.sIx_nat]
  have hl : z.length = z.cps.toList.length := by simp [Str.length]
  show (z.cps.toList.drop (min i z.length)).take (z.length - min i z.length) = _
  rw [List.take_of_length_le (by rw [List.length_drop]; omega)]
  by_cases l : i ≤ z.length
  · rw [Nat.min_eq_left l]
  · rw [Nat.min_eq_right (by omega), List.drop_of_length_le (by omega), List.drop_of_length_le (by omega)]
theorem LET_nd : LET.cps.toList.Nodup := by decide +kernel
def T12 : List Str := ["early", "keyed", "ranks", "plain", "look", "off", "on", "add", "state", "cut", "done", "run"]
theorem T12_nd : T12.Nodup := by decide +kernel
theorem T12_nm : ∀ x ∈ T12, nameB x = true := by decide +kernel
def F_tags : FS := fun ds m Q => ∃ (p : Addr) (c : Cell) (rest : Mem) (n k : Nat), ds = [.adr p, .int (k : Nat)] ∧ m = (p, c) :: rest ∧ Kit n c ∧ n + 20 < 2 ^ 40 ∧ k ≤ 12 ∧
  ∀ (ws : List Str) (c' : Cell), Tags k ws → Kit (n + 20) c' → Q (.lst (ws.map .str)) ((p, c') :: rest)
theorem ok__law_tags (T : Txt K mg a) : Def P w K mg base 3 a.f__law_tags ["kit", "many"] (FSn 2 (F_tags)) := by
  have nd := sc__law_tags.nd
  have C__law_toss := ok__law_toss (P := P) (w := w) (base := base) T
  refine defOk T.h__law_tags sc__law_tags (fun _ _ _ h => h.1) (fun cdv A outer s H E hr => by exact (pss_cons (ps_asg (pe_tup (pa_cons pe_str (pa_cons (kx_def K rfl C__law_toss (hr.mono (by decide)) rfl T.g__law_toss T.k__law_toss (pa_cons (pv 0) (pa_cons pe_int pa_nil))) (pa_cons (kx_def K rfl C__law_toss (hr.mono (by decide)) rfl T.g__law_toss T.k__law_toss (pa_cons (pv 0) (pa_cons pe_int pa_nil))) pa_nil)))) (kx_tup K rfl (n := 3) (by rfl) (pgs_cons (pg_name (i := 2) nd rfl (Or.inr rfl)) (pgs_cons (pg_name (i := 3) nd rfl (Or.inl rfl)) (pgs_cons (pg_name (i := 4) nd rfl (Or.inr rfl)) pgs_nil)))))
    (pss_cons (ps_if (PW.pt (pw_and (pt_cmpR (kx_eqU K rfl hr.units) (pv 3) pe_int (nomark _)) (pw_and1 (pt_cmpR op_lt (pv 1) pe_int (nomark _))))) (pss_one (ps_ret (pe_lc (own := [("k", 9)]) (g := (gName 9)) (tt := tYes) rfl nd (pi_range1 (by rfl) T.n_range (pa_cons (pv 1) pa_nil)) (blkOk_by (own := [("k", 9)]) (N := N__law_tags) (sc := defScope s__law_tags) (by decide +kernel)) (fun _ _ _ _ _ => (pg_name (i := 9) nd rfl (by first | exact Or.inl rfl | exact Or.inr rfl))) (fun _ _ _ _ _ => pts_nil) (fun _ _ _ _ _ => (pe_op op_mulU (pe_ix (kx_ix K rfl hr.units) (pv 2) (pv 4) (fun _ _ => rfl)) (pe_op op_addU (pv 9) pe_int)))))) pss_nil)
    (pss_cons (ps_if (pt_cmpR (kx_eqU K rfl hr.units) (pv 3) pe_int (nomark _)) (pss_cons (ps_set (i := 5) nd rfl (Or.inr rfl) (pe_lst (pa_cons pe_str (pa_cons pe_str (pa_cons pe_str (pa_cons pe_str (pa_cons pe_str (pa_cons pe_str (pa_cons pe_str (pa_cons pe_str (pa_cons pe_str (pa_cons pe_str (pa_cons pe_str (pa_cons pe_str pa_nil))))))))))))))
    (pss_one (ps_ret (pe_lc (own := [("k", 9)]) (g := (gName 9)) (tt := tYes) rfl nd (pi_range1 (by rfl) T.n_range (pa_cons (pv 1) pa_nil)) (blkOk_by (own := [("k", 9)]) (N := N__law_tags) (sc := defScope s__law_tags) (by decide +kernel)) (fun _ _ _ _ _ => (pg_name (i := 9) nd rfl (by first | exact Or.inl rfl | exact Or.inr rfl))) (fun _ _ _ _ _ => pts_nil) (fun _ _ _ _ _ => (pe_ix (kx_ix K rfl hr.units) (pv 5) (pe_op op_mod (pe_callTy cr_int1 (by rfl) T.n_int (by decide +kernel) (pa_cons (pe_op op_addU (pv 4) (pe_op op_mulU pe_int (pv 9))) pa_nil)) pe_int) (fun _ _ => rfl))))))) pss_nil)
    (pss_cons (ps_set (i := 6) nd rfl (Or.inr rfl) (kx_bm K rfl PySem.F.plainAttrs_str PySem.F.slot_str_join PySem.F.type_str_join (kx_join K rfl) pe_str (pa_cons (pe_lc (own := [("turn", 10)]) (g := (gName 10)) (tt := tYes) rfl nd (pi_range1 (by rfl) T.n_range (pa_cons (pe_op op_addU pe_int (kx_def K rfl C__law_toss (hr.mono (by decide)) rfl T.g__law_toss T.k__law_toss (pa_cons (pv 0) (pa_cons pe_int pa_nil)))) pa_nil)) (blkOk_by (own := [("turn", 10)]) (N := N__law_tags) (sc := defScope s__law_tags) (by decide +kernel)) (fun _ _ _ _ _ => (pg_name (i := 10) nd rfl (by first | exact Or.inl rfl | exact Or.inr rfl))) (fun _ _ _ _ _ => pts_nil) (fun _ _ _ _ _ => (pe_ix (kx_ix K rfl hr.units) (pv 2) (kx_def K rfl C__law_toss (hr.mono (by decide)) rfl T.g__law_toss T.k__law_toss (pa_cons (pv 0) (pa_cons pe_int pa_nil))) (fun _ _ => rfl)))) pa_nil)))
    (pss_cons (ps_asg (pe_tup (pa_cons (kx_def K rfl C__law_toss (hr.mono (by decide)) rfl T.g__law_toss T.k__law_toss (pa_cons (pv 0) (pa_cons (pe_callB (kx_len K rfl) (by rfl) T.n_len (by decide +kernel) (pa_cons (pv 6) pa_nil)) pa_nil))) (pa_cons (pe_ix (kx_ix K rfl hr.units) (pe_lst (pa_cons pe_int (pa_cons pe_int (pa_cons pe_int (pa_cons pe_int (pa_cons pe_int pa_nil)))))) (kx_def K rfl C__law_toss (hr.mono (by decide)) rfl T.g__law_toss T.k__law_toss (pa_cons (pv 0) (pa_cons pe_int pa_nil))) (fun _ _ => rfl)) pa_nil))) (kx_tup K rfl (n := 2) (by rfl) (pgs_cons (pg_name (i := 7) nd rfl (Or.inr rfl)) (pgs_cons (pg_name (i := 8) nd rfl (Or.inr rfl)) pgs_nil))))
    (pss_one (ps_ret (pe_lc (own := [("k", 9)]) (g := (gName 9)) (tt := tYes) rfl nd (pi_range1 (by rfl) T.n_range (pa_cons (pv 1) pa_nil)) (blkOk_by (own := [("k", 9)]) (N := N__law_tags) (sc := defScope s__law_tags) (by decide +kernel)) (fun _ _ _ _ _ => (pg_name (i := 9) nd rfl (by first | exact Or.inl rfl | exact Or.inr rfl))) (fun _ _ _ _ _ => pts_nil) (fun _ _ _ _ _ => (pe_op op_addU (pe_op op_addU (pe_slice (kx_sl K rfl) (pv 6) po_none (po_some (pv 7))) (pe_ix (kx_ix K rfl hr.units) (pv 2) (pe_op op_mod (pe_callTy cr_int1 (by rfl) T.n_int (by decide +kernel) (pa_cons (pe_op op_addU (pv 4) (pe_op op_mulU (pv 8) (pv 9))) pa_nil)) pe_int) (fun _ _ => rfl))) (pe_slice (kx_sl K rfl) (pv 6) (po_some (pe_op op_addU (pv 7) pe_int)) po_none)))))))))))) (fun ds m Q h => ?_)
  replace h := h.2
  clear nd
  obtain ⟨p, c, rest, n, k, rfl, rfl, hk, hn, k12, q⟩ := h
  walk_at "s"
  refine ew_tup ?_
  walk_at "s"
  refine use_toss hk (by omega) (by omega) (by omega) fun way c1 hw k1 => ?_
  walk_at "s"
  refine use_toss k1 (by omega) (by omega) (by omega) fun at_ c2 ha k2 => ?_
  have ha : at_ < 26 := by omega
  walk_at "s"
  refine ⟨Nat.le_of_ble_eq_true rfl, gw_tup rfl ?_⟩
  walk_at "s"
  have sizeL : LET.length ≤ sizeLine := le_sz (by decide +kernel)
  obtain ⟨ch, hat, _, hch⟩ := LET_at at_ ha
  refine sw_ifJ (fun δ' m' => δ' = [some (.adr p), some (.int (k : Nat)), some (.str LET), some (.int (way : Nat)), some (.int (at_ : Nat)), none, none, none, none, none, none] ∧ m' = (p, c2) :: rest) ?_ ?_
  · walk_at "s"
    refine iteD (fun h0 => ?_) (fun h0 => ?_)
    · walk_at "s"
      refine iteD (fun h9 => ?_) (fun h9 => ?_)
      · have h9 : k ≤ 8 := by omega
        walk_at "s"
        refine ew_lcF (tame_name (by decide)) (iw_rngN ?_)
        walk_at "s"
        refine ⟨by omega, Nat, List.range k, natD, fun i => .str (Txt.mul ⟨#[ch]⟩ ((i : Nat) + 1)), rfl, by rw [List.length_range]; exact le_sz (by omega), ?_, ?_⟩
        · intro i acc z hi
          have hi : i < k := List.mem_range.mp hi
          walk_at "s"
          refine ⟨rfl, ?_⟩
          walk_at "s"
          refine ow_ixS sizeL hat ?_
          walk_at "s"
          refine ow_mulS (mulOk1 ch (by omega) (by omega)) ?_
          exact ⟨rfl, rfl⟩
        · have t : Tags k ((List.range k).map fun i => Txt.mul ⟨#[ch]⟩ ((i : Nat) + 1)) := by
            refine ⟨by simp, nd_mapOn (fun a _ b _ e => ?_) List.nodup_range, fun x hx => ?_⟩
            · have e2 := congrArg (fun x : Str => x.cps.toList.length) e
              simp only [mul_one_list, List.length_replicate] at e2
              omega
            · obtain ⟨i, hi, rfl⟩ := List.mem_map.mp hx
              have hi : i < k := List.mem_range.mp hi
              refine name_of (mul_one_list ch _) (by rw [List.length_replicate]; omega) (by rw [List.length_replicate]; omega) fun c hc => ?_
              rw [(List.mem_replicate.mp hc).2]
              exact hch
          have q2 := q _ c2 t (k2.up (by omega))
          rw [List.map_map] at q2
          exact q2
      · walk_at "s"
        exact ⟨rfl, rfl⟩
    · rw [if_neg Bool.false_ne_true]
      walk_at "s"
      exact ⟨rfl, rfl⟩
  · rintro δ' m' ⟨rfl, rfl⟩
    walk_at "s"
    refine sw_if ?_
    walk_at "s"
    refine iteD (fun h0 => ?_) (fun h0 => ?_)
    · walk_at "s"
      refine ew_lst ?_
      walk_at "s"
      refine ⟨Nat.le_of_ble_eq_true rfl, ?_⟩
      walk_at "s"
      have et : [D.str "early", .str "keyed", .str "ranks", .str "plain", .str "look", .str "off", .str "on", .str "add", .str "state", .str "cut", .str "done", .str "run"] = T12.map D.str := rfl
      rw [et]
      refine ew_lcF (tame_name (by decide)) (iw_rngN ?_)
      walk_at "s"
      refine ⟨by omega, Nat, List.range k, natD, fun i => .str (T12.getD ((at_ + 5 * i) % 12) ""), rfl, by rw [List.length_range]; exact le_sz (by omega), ?_, ?_⟩
      · intro i acc z hi
        have hi : i < k := List.mem_range.mp hi
        have hm : (at_ + 5 * i) % 12 < T12.length := Nat.mod_lt _ (by decide)
        walk_at "s"
        refine ⟨rfl, ?_⟩
        walk_at "s"
        refine ow_mul2 (by decide) ?_
        walk_at "s"
        refine ow_ic (by decide) ?_
        rw [show ((at_ : Nat) : Int) + 5 * ((i : Nat) : Int) = ((at_ + 5 * i : Nat) : Int) by omega, show (((at_ + 5 * i : Nat) : Int) % 12) = (((at_ + 5 * i) % 12 : Nat) : Int) by omega]
        refine oi_L (at_map (f := D.str) (List.getElem?_eq_getElem hm)) ?_
        refine ⟨?_, rfl⟩
        show _ = D.str _
        rw [List.getD_eq_getElem?_getD, List.getElem?_eq_getElem hm]
        rfl
      · have t : Tags k ((List.range k).map fun i => T12.getD ((at_ + 5 * i) % 12) "") := by
          refine ⟨by simp, nd_mapOn (fun a ha2 b hb2 e => ?_) List.nodup_range, fun x hx => ?_⟩
          · have ha2 := List.mem_range.mp ha2
            have hb2 := List.mem_range.mp hb2
            have h1 : (at_ + 5 * a) % 12 < T12.length := Nat.mod_lt _ (by decide)
            have h2 : (at_ + 5 * b) % 12 < T12.length := Nat.mod_lt _ (by decide)
            rw [List.getD_eq_getElem?_getD, List.getElem?_eq_getElem h1, List.getD_eq_getElem?_getD, List.getElem?_eq_getElem h2, Option.getD_some, Option.getD_some] at e
            have a1 := T12_nd.idxOf_getElem _ h1
            have a2 := T12_nd.idxOf_getElem _ h2
            rw [e] at a1
            omega
          · obtain ⟨i, _, rfl⟩ := List.mem_map.mp hx
            have hm : (at_ + 5 * i) % 12 < T12.length := Nat.mod_lt _ (by decide)
            rw [List.getD_eq_getElem?_getD, List.getElem?_eq_getElem hm]
            exact T12_nm _ (List.getElem_mem hm)
        have q2 := q _ c2 t (k2.up (by omega))
        rw [List.map_map] at q2
        exact q2
    · walk_at "s"
      refine ⟨ty_S, ?_⟩
      walk_at "s"
      refine ew_lcD (α := Nat) (fun c => .str (chS c)) (fun _ c => c ∈ LET.cps.toList) (fun j m' => ∃ c' : Cell, m' = (p, c') :: rest ∧ Kit (n + 3 + j) c') (tame_name (by decide)) (iw_rngN ?_)
      walk_at "s"
      refine use_toss k2 (by omega) (by omega) (by omega) fun r3 c3 h3 k3 => ?_
      walk_at "s"
      rw [show (1 : Int) + (r3 : Nat) = ((1 + r3 : Nat) : Int) by omega]
      refine ⟨1 + r3, rfl, by omega, List.range (1 + r3), _, rfl, by rw [List.length_range]; exact le_sz (by omega), ⟨c3, rfl, k3⟩, ?_, ?_⟩
      · rintro j x acc m' z hx ⟨c', rfl, kc⟩
        obtain ⟨hj, rfl⟩ := range_get hx
        walk_at "s"
        refine ⟨rfl, ?_⟩
        walk_at "s"
        refine use_toss kc (by omega) (by omega) (by omega) fun r4 c4 h4 k4 => ?_
        obtain ⟨ch4, hat4, _, hch4⟩ := LET_at r4 (by omega)
        refine ow_ixS sizeL hat4 ?_
        exact ⟨ch4, (p, c4) :: rest, rfl, hch4, rfl, c4, rfl, k4⟩
      · rintro cs m' hl hcs ⟨c4, rfl, k4⟩
        rw [List.length_range] at hl k4
        walk_at "s"
        have ecs : (cs.map fun c => D.str (chS c)) = (cs.map chS).map D.str := by rw [List.map_map]; rfl
        rw [ecs]
        refine cw_join (by rw [chs_sum, List.length_map, show (Str.ofString "").length = 0 from rfl]; omega) ?_
        have hst := join_chs2 cs
        generalize Txt.join "" (cs.map chS) = stem at hst ⊢
        have hsl : stem.length = 1 + r3 := by
          rw [← hl, ← hst]
          simp [Str.length]
        have hcm : ∀ c ∈ cs, c ∈ LET.cps.toList := fun c hc => by
          obtain ⟨i, hi⟩ := List.getElem?_of_mem hc
          exact hcs i c hi
        walk_at "s"
        refine ew_tup ?_
        walk_at "s"
        refine cw_lenS (le_sz (by omega)) ?_
        walk_at "s"
        refine use_toss k4 (by omega) (by omega) (by omega) fun spot c5 h5 k5 => ?_
        have h5 : spot < 1 + r3 := by omega
        walk_at "s"
        refine ew_lst ?_
        walk_at "s"
        refine ⟨Nat.le_of_ble_eq_true rfl, ?_⟩
        walk_at "s"
        refine use_toss k5 (by omega) (by omega) (by omega) fun r6 c6 h6 k6 => ?_
        obtain ⟨pace, hp, hpc⟩ : ∃ pace : Nat, L2.atI [D.int 1, .int 3, .int 5, .int 7, .int 11] ((r6 : Nat) : Int) = some (.int (pace : Nat)) ∧ (pace = 1 ∨ pace = 3 ∨ pace = 5 ∨ pace = 7 ∨ pace = 11) := by
          rcases (by omega : r6 = 0 ∨ r6 = 1 ∨ r6 = 2 ∨ r6 = 3 ∨ r6 = 4) with rfl | rfl | rfl | rfl | rfl
          · exact ⟨1, rfl, .inl rfl⟩
          · exact ⟨3, rfl, .inr (.inl rfl)⟩
          · exact ⟨5, rfl, .inr (.inr (.inl rfl))⟩
          · exact ⟨7, rfl, .inr (.inr (.inr (.inl rfl)))⟩
          · exact ⟨11, rfl, .inr (.inr (.inr (.inr rfl)))⟩
        refine oi_L hp ?_
        walk_at "s"
        refine ⟨Nat.le_of_ble_eq_true rfl, gw_tup rfl ?_⟩
        walk_at "s"
        refine ew_lcF (tame_name (by decide)) (iw_rngN ?_)
        walk_at "s"
        refine ⟨by omega, Nat, List.range k, natD, fun i => .str (cutS stem none (some ((spot : Nat) : Int)) ++ chS (LET.cps.toList.getD ((at_ + pace * i) % 26) 0) ++ cutS stem (some ((spot + 1 : Nat) : Int)) none), rfl, by rw [List.length_range]; exact le_sz (by omega), ?_, ?_⟩
        · intro i acc z hi
          have hi : i < k := List.mem_range.mp hi
          walk_at "s"
          refine ⟨rfl, ?_⟩
          walk_at "s"
          refine lw_S (le_sz (by omega)) ?_
          walk_at "s"
          obtain ⟨chi, hati, hgeti, hmi⟩ := LET_at ((at_ + pace * i) % 26) (Nat.mod_lt _ (by decide))
          have hch0 : LET.cps.toList.getD ((at_ + pace * i) % 26) 0 = chi := by rw [List.getD_eq_getElem?_getD, hgeti]; rfl
          have l1 : (cutS stem none (some ((spot : Nat) : Int))).length ≤ 8 := by
            have e : (cutS stem none (some ((spot : Nat) : Int))).length = (cutS stem none (some ((spot : Nat) : Int))).cps.toList.length := by simp [Str.length]
            rw [e, cutS_to, hst, List.length_take]
            omega
          have l2 : (cutS stem (some ((spot + 1 : Nat) : Int)) none).length ≤ 8 := by
            have e : (cutS stem (some ((spot + 1 : Nat) : Int)) none).length = (cutS stem (some ((spot + 1 : Nat) : Int)) none).cps.toList.length := by simp [Str.length]
            rw [e, cutS_from, hst, List.length_drop]
            omega
          have l3 : (chS chi).length = 1 := rfl
          have l4 : (cutS stem none (some ((spot : Nat) : Int)) ++ chS chi).length ≤ 9 := by
            have e : (cutS stem none (some ((spot : Nat) : Int)) ++ chS chi).length = (cutS stem none (some ((spot : Nat) : Int)) ++ chS chi).cps.toList.length := by simp [Str.length]
            rw [e, app_cps, List.length_append]
            have e1 : (cutS stem none (some ((spot : Nat) : Int))).length = (cutS stem none (some ((spot : Nat) : Int))).cps.toList.length := by simp [Str.length]
            have e2 : (chS chi).cps.toList.length = 1 := rfl
            omega
          refine ow_mul2 (by omega) ?_
          walk_at "s"
          refine ow_ic (by decide) ?_
          rw [show ((at_ : Nat) : Int) + (pace : Int) * (i : Int) = ((at_ + pace * i : Nat) : Int) by rw [Int.natCast_add, Int.natCast_mul], show (((at_ + pace * i : Nat) : Int) % 26) = (((at_ + pace * i) % 26 : Nat) : Int) by omega]
          refine ow_ixS sizeL hati ?_
          refine ow_addS (le_sz (show _ + (chS chi).length ≤ 16777216 by omega)) ?_
          walk_at "s"
          refine lw_S (le_sz (by omega)) ?_
          rw [show ((spot : Nat) : Int) + 1 = ((spot + 1 : Nat) : Int) by omega]
          refine ow_addS (le_sz (show (cutS stem none (some ((spot : Nat) : Int)) ++ chS chi).length + _ ≤ 16777216 by omega)) ?_
          refine ⟨?_, rfl⟩
          show _ = D.str _
          rw [hch0]
        · have cps : ∀ i, (cutS stem none (some ((spot : Nat) : Int)) ++ chS (LET.cps.toList.getD ((at_ + pace * i) % 26) 0) ++ cutS stem (some ((spot + 1 : Nat) : Int)) none).cps.toList = cs.take spot ++ [LET.cps.toList.getD ((at_ + pace * i) % 26) 0] ++ cs.drop (spot + 1) := fun i => by
            rw [app_cps, app_cps, cutS_to, cutS_from, hst]
          have t : Tags k ((List.range k).map fun i => cutS stem none (some ((spot : Nat) : Int)) ++ chS (LET.cps.toList.getD ((at_ + pace * i) % 26) 0) ++ cutS stem (some ((spot + 1 : Nat) : Int)) none) := by
            refine ⟨by simp, nd_mapOn (fun a ha2 b hb2 e => ?_) List.nodup_range, fun x hx => ?_⟩
            · have ha2 := List.mem_range.mp ha2
              have hb2 := List.mem_range.mp hb2
              have e2 := congrArg (fun x : Str => x.cps.toList) e
              simp only [cps] at e2
              have e3 := List.append_cancel_right e2
              have e4 := List.append_cancel_left e3
              have e5 : LET.cps.toList.getD ((at_ + pace * a) % 26) 0 = LET.cps.toList.getD ((at_ + pace * b) % 26) 0 := by injection e4
              have hl26 : LET.cps.toList.length = 26 := by decide +kernel
              have g1 : (at_ + pace * a) % 26 < LET.cps.toList.length := by rw [hl26]; exact Nat.mod_lt _ (by decide)
              have g2 : (at_ + pace * b) % 26 < LET.cps.toList.length := by rw [hl26]; exact Nat.mod_lt _ (by decide)
              rw [List.getD_eq_getElem?_getD, List.getElem?_eq_getElem g1, List.getD_eq_getElem?_getD, List.getElem?_eq_getElem g2, Option.getD_some, Option.getD_some] at e5
              have a1 := LET_nd.idxOf_getElem _ g1
              have a2 := LET_nd.idxOf_getElem _ g2
              rw [e5] at a1
              have a3 : (at_ + pace * a) % 26 = (at_ + pace * b) % 26 := a1.symm.trans a2
              rcases hpc with rfl | rfl | rfl | rfl | rfl <;> omega
            · obtain ⟨i, _, rfl⟩ := List.mem_map.mp hx
              obtain ⟨chi, _, hgeti, hmi⟩ := LET_at ((at_ + pace * i) % 26) (Nat.mod_lt _ (by decide))
              refine name_of (cps i) ?_ ?_ fun c hc => ?_
              · simp only [List.length_append, List.length_take, List.length_drop, List.length_cons, List.length_nil]
                omega
              · simp only [List.length_append, List.length_take, List.length_drop, List.length_cons, List.length_nil]
                omega
              · rcases List.mem_append.mp hc with hc | hc
                · rcases List.mem_append.mp hc with hc | hc
                  · exact hcm c (List.mem_of_mem_take hc)
                  · rw [List.mem_singleton] at hc
                    rw [hc, List.getD_eq_getElem?_getD, hgeti]
                    exact hmi
                · exact hcm c (List.mem_of_mem_drop hc)
          have q2 := q _ c6 t (k6.up (by omega))
          rw [List.map_map] at q2
          exact q2

end
end DL

set_option Elab.async false
set_option linter.all false
set_option maxRecDepth 100000
set_option maxHeartbeats 4000000
set_option autoImplicit false
namespace DL
open PySem PySem.Spec PyProof.Rows L2
local macro_rules | `(tactic| walk_at "m") => `(tactic| first
  | with_reducible exact MAt.last | with_reducible exact MUp.last
  | exact MAt.zero | exact MUp.zero | exact MAt.last | exact MUp.last
  | (apply MAt.cons; walk_at "m") | (apply MUp.cons; walk_at "m")
  | (apply MAt.app; walk_at "m") | (apply MUp.app; walk_at "m")
  | assumption)
local macro_rules | `(tactic| walk_at "s1") => `(tactic| with_reducible first
  | refine sw_seq ?_ | refine sw_next ?_ | refine sw_ret ?_ | refine sw_retN ?_ | refine sw_asg ?_ | refine sw_asgG ?_ | refine sw_drop ?_ | refine sw_break ?_ | refine sw_cont ?_ | refine sw_par ?_ | refine sw_par3 ?_
  | refine tw_test ?_ | refine tw_B ?_ | refine tw_and ?_ | refine tw_or ?_ | refine tw_not ?_ | refine tw_yes ?_
  | refine ew_op ?_ | refine ew_un ?_ | refine ew_int ?_ | refine ew_non ?_ | refine ew_bl ?_ | refine ew_str ?_ | refine ew_ty ?_ | refine ew_ref ?_ | refine ew_cb ?_ | refine ew_if ?_ | refine ew_andV ?_ | refine ew_orV ?_ | refine ew_notV ?_ | refine ew_chain ?_ | refine ew_sl ?_ | refine pw_no ?_ | refine pw_part ?_
  | refine ew_call0 ?_ | refine ew_kw0 ?_
  | refine aw_nil ?_ | refine aw_cons ?_ | refine ew_bm ?_ | refine ew_bm0 ?_ | refine gs_L ?_
  | refine gs_nil ?_ | refine gs_cons ?_ | refine gw_name ?_
  | refine ow_addI ?_ | refine ow_odd ?_ | refine ow_i0 ?_ | refine ow_b0 ?_ | refine oq_eqI ?_ | refine oq_neI ?_ | refine oq_eqS ?_ | refine oq_neS ?_ | refine ow_isN ?_ | refine ow_notN ?_ | refine uw_neg ?_ | refine cw_int ?_ | refine cw_intB ?_ | refine cw_abs ?_ | refine cw_mx2 ?_ | refine cw_mn2 ?_ | refine cw_lenL ?_ | refine cw_lenR ?_ | refine cw_listL ?_ | refine cw_listT ?_ | refine lw_L ?_ | refine ew_revL ?_)
local macro_rules | `(tactic| walk_at "s2") => `(tactic| first
  | ((with_reducible refine' ew_var ?hv ?_); (case hv => exact rfl))
  | ((with_reducible refine' oi_M ?hm ?hi ?_); (case hm => walk_at "m"); (case hi => exact rfl))
  | ((with_reducible refine' ow_ixT ?hi ?_); (case hi => exact rfl))
  | ((with_reducible refine' cl_M ?hm ?_); (case hm => walk_at "m"))
  | ((with_reducible refine' ci_M ?hm ?_); (case hm => walk_at "m"))
  | ((with_reducible refine' ma_app ?hm ?ll ?_); (case hm => walk_at "m"); (case ll => walk_at "l"))
  | ((with_reducible refine' And.intro (ty_A ?hm) ?_); (case hm => walk_at "m"))
  | (with_reducible refine' Exists.intro _ (And.intro ?he ?_); (case he => exact rfl))
  | (with_reducible refine' Exists.intro _ (Exists.intro _ (And.intro ?he ?_)); (case he => exact rfl))
  | (with_reducible refine' Exists.intro _ (Exists.intro _ (Exists.intro _ (And.intro ?he ?_))); (case he => exact rfl))
  | ((with_reducible refine' Exists.intro _ (Exists.intro _ (Exists.intro _ (Exists.intro _ (Exists.intro _ (And.intro ?e1 (And.intro ?e2 (And.intro ?hm (And.intro ?hi ?_))))))))); (case e1 => exact rfl); (case e2 => exact rfl); (case hm => walk_at "m"); (case hi => exact rfl)))
local macro_rules | `(tactic| walk_at "l") => `(tactic| first | assumption | exact lt_sz (by omega) | exact lt_sz (by simp only [List.length_map, List.length_append, List.length_cons, List.length_nil, List.length_take, List.length_drop, List.length_range]; omega))
local macro_rules | `(tactic| walk_at "s") => `(tactic| repeat (first | walk_at "s1" | walk_at "s2"))
local macro_rules | `(tactic| walk_at "sx") => `(tactic| with_reducible first
  | refine swx_of ?_ | refine swx_seq ?_ | refine swx_drop ?_ | refine swx_asg ?_ | refine swx_ret ?_ | refine ewx_fun ?_ | refine ewx_meth ?_ | refine ewx_make ?_ | refine ewx_sub ?_)
local macro_rules | `(tactic| walk_at "s") => `(tactic| repeat (first | walk_at "s1" | walk_at "s2" | walk_at "sx"))
local macro_rules | `(tactic| walk_at "g1") => `(tactic| with_reducible first
  | refine ew_tup2 ?_ | refine ew_tup3 ?_ | refine ew_tup4 ?_ | refine ew_fldI ?_ | refine sw_fldA ?_ | refine ew_dget1 ?_ | refine ew_dget2 ?_ | refine ow_isN ?_)
local macro_rules | `(tactic| walk_at "g2") => `(tactic| first
  | ((with_reducible refine' gw_tup ?e ?_); (case e => exact rfl))
  | ((with_reducible refine' oi_L ?e ?_); (case e => exact rfl))
  | ((refine' Exists.intro _ (And.intro ?cl (And.intro ?na (And.intro ?e ?_)))); (case cl => assumption); (case na => assumption); (case e => exact rfl))
  | ((refine' Exists.intro _ (Exists.intro _ (Exists.intro _ (Exists.intro _ (And.intro ?e (And.intro ?hm (And.intro ?cl (And.intro ?na (And.intro ?l ?_))))))))); (case e => exact rfl); (case hm => walk_at "m"); (case cl => assumption); (case na => assumption); (case l => exact Nat.le_of_ble_eq_true rfl)))
local macro_rules | `(tactic| walk_at "g") => `(tactic| repeat (first | walk_at "s1" | walk_at "s2" | walk_at "sx" | walk_at "g1" | walk_at "g2"))

section
variable {P : Program} {w : World} {K : PySem.W.Frag} {mg : Str → Option Value} {base : Heap} {a : Ads}
def AnsOk : Option Int → Prop
  | none => True
  | some a => -1000 ≤ a ∧ a ≤ 1000
theorem ans01 (b : Bool) : AnsOk (some (if b = true then 1 else 0)) := by
  cases b
  · show (-1000 : Int) ≤ 0 ∧ (0 : Int) ≤ 1000
    decide
  · show (-1000 : Int) ≤ 1 ∧ (1 : Int) ≤ 1000
    decide
structure Col (k : Nat) (r : List Step) : Prop where
  len : r.length = k
  ok : ∀ s ∈ r, s.1 < k ∧ AnsOk s.2
def F_answer : FS := fun ds m Q => ∃ (p : Addr) (c : Cell) (rest : Mem) (n : Nat), ds = [.adr p] ∧ m = (p, c) :: rest ∧ Kit n c ∧ n + 3 < 2 ^ 40 ∧
  ∀ (t : Option Int) (c' : Cell), AnsOk t → Kit (n + 3) c' → Q (ansD t) ((p, c') :: rest)
theorem ok__law_answer (T : Txt K mg a) : Def P w K mg base 3 a.f__law_answer ["kit"] (FSn 1 (F_answer)) := by
  have nd := sc__law_answer.nd
  have C__law_toss := ok__law_toss (P := P) (w := w) (base := base) T
  refine defOk T.h__law_answer sc__law_answer (fun _ _ _ h => h.1) (fun cdv A outer s H E hr => by exact (pss_one (ps_ret (pe_ix (kx_ix K rfl hr.units) (pe_lst (pa_cons pe_non (pa_cons pe_non (pa_cons pe_int (pa_cons pe_int (pa_cons (pe_op op_sub (kx_def K rfl C__law_toss (hr.mono (by decide)) rfl T.g__law_toss T.k__law_toss (pa_cons (pv 0) (pa_cons pe_int pa_nil))) pe_int) (pa_cons (pe_op op_sub (kx_def K rfl C__law_toss (hr.mono (by decide)) rfl T.g__law_toss T.k__law_toss (pa_cons (pv 0) (pa_cons pe_int pa_nil))) pe_int) pa_nil))))))) (kx_def K rfl C__law_toss (hr.mono (by decide)) rfl T.g__law_toss T.k__law_toss (pa_cons (pv 0) (pa_cons pe_int pa_nil))) (fun _ _ => rfl))))) (fun ds m Q h => ?_)
  replace h := h.2
  clear nd
  obtain ⟨p, c, rest, n, rfl, rfl, hk, hn, q⟩ := h
  walk_at "s"
  refine ew_lst ?_
  walk_at "s"
  refine use_toss hk (by omega) (by omega) (by omega) fun r1 c1 h1 k1 => ?_
  walk_at "s"
  refine use_toss k1 (by omega) (by omega) (by omega) fun r2 c2 h2 k2 => ?_
  walk_at "s"
  refine ⟨Nat.le_of_ble_eq_true rfl, ?_⟩
  walk_at "s"
  refine use_toss k2 (by omega) (by omega) (by omega) fun r3 c3 h3 k3 => ?_
  rcases (by omega : r3 = 0 ∨ r3 = 1 ∨ r3 = 2 ∨ r3 = 3 ∨ r3 = 4 ∨ r3 = 5) with rfl | rfl | rfl | rfl | rfl | rfl
  · exact oi_L (d := .non) rfl (q none c3 trivial k3)
  · exact oi_L (d := .non) rfl (q none c3 trivial k3)
  · exact oi_L (d := .int 0) rfl (q (some 0) c3 (by unfold AnsOk; omega) k3)
  · exact oi_L (d := .int 1) rfl (q (some 1) c3 (by unfold AnsOk; omega) k3)
  · exact oi_L (d := .int (r1 - 2)) rfl (q (some (r1 - 2)) c3 (by unfold AnsOk; omega) k3)
  · exact oi_L (d := .int (r2 - 1000)) rfl (q (some (r2 - 1000)) c3 (by unfold AnsOk; omega) k3)
theorem use_answer {p : Addr} {c : Cell} {rest : Mem} {n : Nat} {Q : D → Mem → Prop} (hk : Kit n c) (hn : n + 3 < 2 ^ 40) (q : ∀ (t : Option Int) (c' : Cell), AnsOk t → Kit (n + 3) c' → Q (ansD t) ((p, c') :: rest)) : FSn 1 F_answer [.adr p] ((p, c) :: rest) Q :=
  ⟨rfl, p, c, rest, n, rfl, rfl, hk, hn, q⟩
def F_column : FS := fun ds m Q => ∃ (p : Addr) (c : Cell) (rest : Mem) (n k : Nat), ds = [.adr p, .int (k : Nat)] ∧ m = (p, c) :: rest ∧ Kit n c ∧ n + 200 < 2 ^ 40 ∧ 0 < k ∧ k ≤ 25 ∧
  ∀ (r : List Step) (c' : Cell), Col k r → Kit (n + 200) c' → Q (rowD r) ((p, c') :: rest)
theorem ok__law_column (T : Txt K mg a) : Def P w K mg base 4 a.f__law_column ["kit", "many"] (FSn 2 (F_column)) := by
  have nd := sc__law_column.nd
  have C__law_answer := ok__law_answer (P := P) (w := w) (base := base) T
  have C__law_toss := ok__law_toss (P := P) (w := w) (base := base) T
  refine defOk T.h__law_column sc__law_column (fun _ _ _ h => h.1) (fun cdv A outer s H E hr => by exact (pss_cons (ps_asg (pe_tup (pa_cons (kx_def K rfl C__law_toss (hr.mono (by decide)) rfl T.g__law_toss T.k__law_toss (pa_cons (pv 0) (pa_cons pe_int pa_nil))) (pa_cons (kx_def K rfl C__law_toss (hr.mono (by decide)) rfl T.g__law_toss T.k__law_toss (pa_cons (pv 0) (pa_cons (pv 1) pa_nil))) (pa_cons (kx_def K rfl C__law_answer (hr.mono (by decide)) rfl T.g__law_answer T.k__law_answer (pa_cons (pv 0) pa_nil)) pa_nil)))) (kx_tup K rfl (n := 3) (by rfl) (pgs_cons (pg_name (i := 2) nd rfl (Or.inl rfl)) (pgs_cons (pg_name (i := 3) nd rfl (Or.inr rfl)) (pgs_cons (pg_name (i := 4) nd rfl (Or.inr rfl)) pgs_nil)))))
    (pss_cons (ps_if (pt_cmpR (kx_eqU K rfl hr.units) (pv 2) pe_int (nomark _)) (pss_one (ps_ret (pe_lc (own := [("at", 5)]) (g := (gName 5)) (tt := tYes) rfl nd (pi_range1 (by rfl) T.n_range (pa_cons (pv 1) pa_nil)) (blkOk_by (own := [("at", 5)]) (N := N__law_column) (sc := defScope s__law_column) (by decide +kernel)) (fun _ _ _ _ _ => (pg_name (i := 5) nd rfl (by first | exact Or.inl rfl | exact Or.inr rfl))) (fun _ _ _ _ _ => pts_nil) (fun _ _ _ _ _ => (pe_tup (pa_cons (pv 3) (pa_cons (pv 4) pa_nil))))))) pss_nil)
    (pss_cons (ps_if (pt_cmpR (kx_eqU K rfl hr.units) (pv 2) pe_int (nomark _)) (pss_one (ps_ret (pe_lc (own := [("at", 5)]) (g := (gName 5)) (tt := tYes) rfl nd (pi_range1 (by rfl) T.n_range (pa_cons (pv 1) pa_nil)) (blkOk_by (own := [("at", 5)]) (N := N__law_column) (sc := defScope s__law_column) (by decide +kernel)) (fun _ _ _ _ _ => (pg_name (i := 5) nd rfl (by first | exact Or.inl rfl | exact Or.inr rfl))) (fun _ _ _ _ _ => pts_nil) (fun _ _ _ _ _ => (pe_tup (pa_cons (pv 5) (pa_cons (pe_ix (kx_ix K rfl hr.units) (pe_lst (pa_cons (pv 5) (pa_cons (pe_callTy cr_int1 (by rfl) T.n_int (by decide +kernel) (pa_cons (pe_cmpR (kx_eqU K rfl hr.units) (pv 5) (pv 3) (nomark _)) pa_nil)) (pa_cons (pv 4) pa_nil)))) (pe_op op_mod (pe_callTy cr_int1 (by rfl) T.n_int (by decide +kernel) (pa_cons (pv 3) pa_nil)) pe_int) (fun _ _ => rfl)) pa_nil))))))) pss_nil)
    (pss_cons (ps_if (pt_cmpR (kx_eqU K rfl hr.units) (pv 2) pe_int (nomark _)) (pss_one (ps_ret (pe_lc (own := [("at", 5)]) (g := (gName 5)) (tt := tYes) rfl nd (pi_range1 (by rfl) T.n_range (pa_cons (pv 1) pa_nil)) (blkOk_by (own := [("at", 5)]) (N := N__law_column) (sc := defScope s__law_column) (by decide +kernel)) (fun _ _ _ _ _ => (pg_name (i := 5) nd rfl (by first | exact Or.inl rfl | exact Or.inr rfl))) (fun _ _ _ _ _ => pts_nil) (fun _ _ _ _ _ => (pe_tup (pa_cons (pe_op op_mod (pe_callTy cr_int1 (by rfl) T.n_int (by decide +kernel) (pa_cons (pe_op op_addU (pv 5) (pv 3)) pa_nil)) (pv 1)) (pa_cons (pe_ix (kx_ix K rfl hr.units) (pe_lst (pa_cons (pv 4) (pa_cons (pv 5) pa_nil))) (pe_op op_odd2 (pe_callTy cr_int1 (by rfl) T.n_int (by decide +kernel) (pa_cons (pv 3) pa_nil)) pe_int) (fun _ _ => rfl)) pa_nil))))))) pss_nil)
    (pss_cons (ps_if (pt_cmpR (kx_eqU K rfl hr.units) (pv 2) pe_int (nomark _)) (pss_one (ps_ret (pe_lc (own := [("at", 5)]) (g := (gName 5)) (tt := tYes) rfl nd (pi_range1 (by rfl) T.n_range (pa_cons (pv 1) pa_nil)) (blkOk_by (own := [("at", 5)]) (N := N__law_column) (sc := defScope s__law_column) (by decide +kernel)) (fun _ _ _ _ _ => (pg_name (i := 5) nd rfl (by first | exact Or.inl rfl | exact Or.inr rfl))) (fun _ _ _ _ _ => pts_nil) (fun _ _ _ _ _ => (pe_tup (pa_cons (pe_callB (cr_mn2 rfl) (by rfl) T.n_min (by decide +kernel) (pa_cons (pe_op op_addU (pv 5) pe_int) (pa_cons (pe_op op_sub (pv 1) pe_int) pa_nil))) (pa_cons (pe_ix (kx_ix K rfl hr.units) (pe_lst (pa_cons (pv 4) (pa_cons (pe_callTy cr_int1 (by rfl) T.n_int (by decide +kernel) (pa_cons (pe_cmpR (kx_eqU K rfl hr.units) (pv 5) (pv 3) (nomark _)) pa_nil)) pa_nil))) (pe_op op_odd2 (pe_callTy cr_int1 (by rfl) T.n_int (by decide +kernel) (pa_cons (pv 3) pa_nil)) pe_int) (fun _ _ => rfl)) pa_nil))))))) pss_nil)
    (pss_one (ps_ret (pe_lc (own := [("at", 5)]) (g := (gName 5)) (tt := tYes) rfl nd (pi_range1 (by rfl) T.n_range (pa_cons (pv 1) pa_nil)) (blkOk_by (own := [("at", 5)]) (N := N__law_column) (sc := defScope s__law_column) (by decide +kernel)) (fun _ _ _ _ _ => (pg_name (i := 5) nd rfl (by first | exact Or.inl rfl | exact Or.inr rfl))) (fun _ _ _ _ _ => pts_nil) (fun _ _ _ _ _ => (pe_tup (pa_cons (kx_def K rfl C__law_toss (hr.mono (by decide)) rfl T.g__law_toss T.k__law_toss (pa_cons (pv 0) (pa_cons (pv 1) pa_nil))) (pa_cons (kx_def K rfl C__law_answer (hr.mono (by decide)) rfl T.g__law_answer T.k__law_answer (pa_cons (pv 0) pa_nil)) pa_nil))))))))))))) (fun ds m Q h => ?_)
  replace h := h.2
  clear nd
  obtain ⟨p, c, rest, n, k, rfl, rfl, hk, hn, k0, k25, q⟩ := h
  walk_at "s"
  refine ew_tup ?_
  walk_at "s"
  refine use_toss hk (by omega) (by omega) (by omega) fun way c1 hw k1 => ?_
  walk_at "s"
  refine use_toss k1 (by omega) (by omega) (by omega) fun goal c2 hg k2 => ?_
  walk_at "s"
  refine use_answer k2 (by omega) fun sh c3 hsh k3 => ?_
  walk_at "s"
  refine ⟨Nat.le_of_ble_eq_true rfl, gw_tup rfl ?_⟩
  walk_at "s"
  have fin : ∀ (r : List Step) (m' : Mem), r.length = (List.range k).length → (∀ (j : Nat) (s : Step), r[j]? = some s → s.1 < k ∧ AnsOk s.2) → (∃ c' : Cell, m' = (p, c') :: rest ∧ Kit (n + 5 + 4 * (List.range k).length) c') → Q (.lst (r.map stepD)) m' := by
    rintro r m' hr hs ⟨c', rfl, kc⟩
    rw [List.length_range] at hr kc
    refine q r c' ⟨hr, fun s hm => ?_⟩ (kc.up (by omega))
    obtain ⟨i, hi⟩ := List.getElem?_of_mem hm
    exact hs i s hi
  have step : ∀ (j : Nat) (z : Addr) (acc : List D) (g : Nat) (t : Option Int) (c'' : Cell), g < k → AnsOk t → Kit (n + 5 + 4 * (j + 1)) c'' → ∃ (s : Step) (m5 : Mem), D.tup [.int (g : Nat), ansD t] = stepD s ∧ (s.1 < k ∧ AnsOk s.2) ∧ (p, c'') :: rest ++ [(z, Cell.lst acc)] = m5 ++ [(z, .lst acc)] ∧ ∃ c' : Cell, m5 = (p, c') :: rest ∧ Kit (n + 5 + 4 * (j + 1)) c' := fun j z acc g t c'' hg ht hk => ⟨(g, t), (p, c'') :: rest, rfl, ⟨hg, ht⟩, rfl, c'', rfl, hk⟩
  refine sw_if ?_
  walk_at "s"
  refine iteD (fun h0 => ?_) (fun h0 => ?_)
  · walk_at "s"
    refine ew_lcD (α := Nat) stepD (fun _ (s : Step) => s.1 < k ∧ AnsOk s.2) (fun j m' => ∃ c' : Cell, m' = (p, c') :: rest ∧ Kit (n + 5 + 4 * j) c') (tame_name (by decide)) (iw_rngN ?_)
    walk_at "s"
    refine ⟨by omega, List.range k, _, rfl, by rw [List.length_range]; exact le_sz (by omega), ⟨c3, rfl, k3⟩, ?_, fin⟩
    rintro j x acc m' z hx ⟨c', rfl, kc⟩
    obtain ⟨hj, rfl⟩ := range_get hx
    walk_at "s"
    refine ⟨rfl, ?_⟩
    walk_at "s"
    refine ew_tup ?_
    walk_at "s"
    exact ⟨Nat.le_of_ble_eq_true rfl, step j z acc goal sh _ (by omega) hsh (kc.up (by omega))⟩
  · walk_at "s"
    refine sw_if ?_
    walk_at "s"
    refine iteD (fun h0 => ?_) (fun h0 => ?_)
    · refine sw_ret (ew_lcD (α := Nat) stepD (fun _ (s : Step) => s.1 < k ∧ AnsOk s.2) (fun j m' => ∃ c' : Cell, m' = (p, c') :: rest ∧ Kit (n + 5 + 4 * j) c') (tame_name (by decide)) (iw_rngN ?_))
      walk_at "s"
      refine ⟨by omega, List.range k, _, rfl, by rw [List.length_range]; exact le_sz (by omega), ⟨c3, rfl, k3⟩, ?_, fin⟩
      rintro j x acc m' z hx ⟨c', rfl, kc⟩
      obtain ⟨hj, rfl⟩ := range_get hx
      walk_at "s"
      refine ⟨rfl, ?_⟩
      walk_at "s"
      refine ew_tup ?_
      walk_at "s"
      refine ew_lst ?_
      walk_at "s"
      refine ⟨Nat.le_of_ble_eq_true rfl, ?_⟩
      walk_at "s"
      refine ow_ic (by decide) ?_
      have hq0 : 0 ≤ (goal : Int) % 3 := Int.emod_nonneg _ (by decide)
      have hq1 : (goal : Int) % 3 < 3 := Int.emod_lt_of_pos _ (by decide)
      generalize (goal : Int) % 3 = qq at hq0 hq1 ⊢
      rcases (by omega : qq = 0 ∨ qq = 1 ∨ qq = 2) with rfl | rfl | rfl
      · exact oi_L (d := .int (j : Nat)) rfl (by walk_at "s"; exact ⟨Nat.le_of_ble_eq_true rfl, step j z acc j (some (j : Nat)) _ hj (by unfold AnsOk; omega) (kc.up (by omega))⟩)
      · exact oi_L (d := .int (if decide ((j : Int) = (goal : Int)) = true then 1 else 0)) rfl (by walk_at "s"; exact ⟨Nat.le_of_ble_eq_true rfl, step j z acc j (some (if decide ((j : Int) = (goal : Int)) = true then 1 else 0)) _ hj (ans01 _) (kc.up (by omega))⟩)
      · exact oi_L (d := ansD sh) rfl (by walk_at "s"; exact ⟨Nat.le_of_ble_eq_true rfl, step j z acc j sh _ hj hsh (kc.up (by omega))⟩)
    · walk_at "s"
      refine sw_if ?_
      walk_at "s"
      refine iteD (fun h0 => ?_) (fun h0 => ?_)
      · refine sw_ret (ew_lcD (α := Nat) stepD (fun _ (s : Step) => s.1 < k ∧ AnsOk s.2) (fun j m' => ∃ c' : Cell, m' = (p, c') :: rest ∧ Kit (n + 5 + 4 * j) c') (tame_name (by decide)) (iw_rngN ?_))
        walk_at "s"
        refine ⟨by omega, List.range k, _, rfl, by rw [List.length_range]; exact le_sz (by omega), ⟨c3, rfl, k3⟩, ?_, fin⟩
        rintro j x acc m' z hx ⟨c', rfl, kc⟩
        obtain ⟨hj, rfl⟩ := range_get hx
        walk_at "s"
        refine ⟨rfl, ?_⟩
        walk_at "s"
        refine ew_tup ?_
        walk_at "s"
        refine ow_ic (by omega) ?_
        walk_at "s"
        refine ew_lst ?_
        walk_at "s"
        refine ⟨Nat.le_of_ble_eq_true rfl, ?_⟩
        walk_at "s"
        have hm0 : 0 ≤ ((j : Int) + (goal : Int)) % (k : Int) := Int.emod_nonneg _ (by omega)
        have hm1 : ((j : Int) + (goal : Int)) % (k : Int) < k := Int.emod_lt_of_pos _ (by omega)
        generalize ((j : Int) + (goal : Int)) % (k : Int) = gg at hm0 hm1 ⊢
        obtain ⟨g2, rfl⟩ : ∃ g2 : Nat, gg = g2 := ⟨gg.toNat, by omega⟩
        have hq1 : goal % 2 < 2 := Nat.mod_lt _ (by decide)
        generalize goal % 2 = qq at hq1 ⊢
        rcases (by omega : qq = 0 ∨ qq = 1) with rfl | rfl
        · exact oi_L (d := ansD sh) rfl (by walk_at "s"; exact ⟨Nat.le_of_ble_eq_true rfl, step j z acc g2 sh _ (by omega) hsh (kc.up (by omega))⟩)
        · exact oi_L (d := .int (j : Nat)) rfl (by walk_at "s"; exact ⟨Nat.le_of_ble_eq_true rfl, step j z acc g2 (some (j : Nat)) _ (by omega) (by unfold AnsOk; omega) (kc.up (by omega))⟩)
      · walk_at "s"
        refine sw_if ?_
        walk_at "s"
        refine iteD (fun h0 => ?_) (fun h0 => ?_)
        · refine sw_ret (ew_lcD (α := Nat) stepD (fun _ (s : Step) => s.1 < k ∧ AnsOk s.2) (fun j m' => ∃ c' : Cell, m' = (p, c') :: rest ∧ Kit (n + 5 + 4 * j) c') (tame_name (by decide)) (iw_rngN ?_))
          walk_at "s"
          refine ⟨by omega, List.range k, _, rfl, by rw [List.length_range]; exact le_sz (by omega), ⟨c3, rfl, k3⟩, ?_, fin⟩
          rintro j x acc m' z hx ⟨c', rfl, kc⟩
          obtain ⟨hj, rfl⟩ := range_get hx
          walk_at "s"
          refine ⟨rfl, ?_⟩
          walk_at "s"
          refine ew_tup ?_
          walk_at "s"
          refine ew_lst ?_
          walk_at "s"
          refine ⟨Nat.le_of_ble_eq_true rfl, ?_⟩
          walk_at "s"
          have hmn : ∃ g2 : Nat, (if (k : Int) - 1 < (j : Int) + 1 then (k : Int) - 1 else (j : Int) + 1) = (g2 : Int) ∧ g2 < k := by
            by_cases e : (k : Int) - 1 < (j : Int) + 1
            · rw [if_pos e]
              exact ⟨k - 1, by omega, by omega⟩
            · rw [if_neg e]
              exact ⟨j + 1, by omega, by omega⟩
          obtain ⟨g2, eg, hg2⟩ := hmn
          rw [eg]
          have hq1 : goal % 2 < 2 := Nat.mod_lt _ (by decide)
          generalize goal % 2 = qq at hq1 ⊢
          rcases (by omega : qq = 0 ∨ qq = 1) with rfl | rfl
          · exact oi_L (d := ansD sh) rfl (by walk_at "s"; exact ⟨Nat.le_of_ble_eq_true rfl, step j z acc g2 sh _ hg2 hsh (kc.up (by omega))⟩)
          · exact oi_L (d := .int (if decide ((j : Int) = (goal : Int)) = true then 1 else 0)) rfl (by walk_at "s"; exact ⟨Nat.le_of_ble_eq_true rfl, step j z acc g2 (some (if decide ((j : Int) = (goal : Int)) = true then 1 else 0)) _ hg2 (ans01 _) (kc.up (by omega))⟩)
        · walk_at "s"
          refine ew_lcD (α := Nat) stepD (fun _ (s : Step) => s.1 < k ∧ AnsOk s.2) (fun j m' => ∃ c' : Cell, m' = (p, c') :: rest ∧ Kit (n + 5 + 4 * j) c') (tame_name (by decide)) (iw_rngN ?_)
          walk_at "s"
          refine ⟨by omega, List.range k, _, rfl, by rw [List.length_range]; exact le_sz (by omega), ⟨c3, rfl, k3⟩, ?_, fin⟩
          rintro j x acc m' z hx ⟨c', rfl, kc⟩
          obtain ⟨hj, rfl⟩ := range_get hx
          walk_at "s"
          refine ⟨rfl, ?_⟩
          walk_at "s"
          refine ew_tup ?_
          walk_at "s"
          refine use_toss kc (by omega) (by omega) (by omega) fun r4 c4 h4 k4 => ?_
          walk_at "s"
          refine use_answer k4 (by omega) fun t5 c5 h5 k5 => ?_
          walk_at "s"
          exact ⟨Nat.le_of_ble_eq_true rfl, step j z acc r4 t5 _ (by omega) h5 (k5.up (by omega))⟩

end
end DL

set_option Elab.async false
set_option linter.all false
set_option maxRecDepth 100000
set_option maxHeartbeats 4000000
set_option autoImplicit false
namespace DL
open PySem PySem.Spec PyProof.Rows L2
local macro_rules | `(tactic| walk_at "m") => `(tactic| first
  | with_reducible exact MAt.last | with_reducible exact MUp.last
  | exact MAt.zero | exact MUp.zero | exact MAt.last | exact MUp.last
  | (apply MAt.cons; walk_at "m") | (apply MUp.cons; walk_at "m")
  | (apply MAt.app; walk_at "m") | (apply MUp.app; walk_at "m")
  | assumption)
local macro_rules | `(tactic| walk_at "s1") => `(tactic| with_reducible first
  | refine sw_seq ?_ | refine sw_next ?_ | refine sw_ret ?_ | refine sw_retN ?_ | refine sw_asg ?_ | refine sw_asgG ?_ | refine sw_drop ?_ | refine sw_break ?_ | refine sw_cont ?_ | refine sw_par ?_ | refine sw_par3 ?_
  | refine tw_test ?_ | refine tw_B ?_ | refine tw_and ?_ | refine tw_or ?_ | refine tw_not ?_ | refine tw_yes ?_
  | refine ew_op ?_ | refine ew_un ?_ | refine ew_int ?_ | refine ew_non ?_ | refine ew_bl ?_ | refine ew_str ?_ | refine ew_ty ?_ | refine ew_ref ?_ | refine ew_cb ?_ | refine ew_if ?_ | refine ew_andV ?_ | refine ew_orV ?_ | refine ew_notV ?_ | refine ew_chain ?_ | refine ew_sl ?_ | refine pw_no ?_ | refine pw_part ?_
  | refine ew_call0 ?_ | refine ew_kw0 ?_
  | refine aw_nil ?_ | refine aw_cons ?_ | refine ew_bm ?_ | refine ew_bm0 ?_ | refine gs_L ?_
  | refine gs_nil ?_ | refine gs_cons ?_ | refine gw_name ?_
  | refine ow_addI ?_ | refine ow_odd ?_ | refine ow_i0 ?_ | refine ow_b0 ?_ | refine oq_eqI ?_ | refine oq_neI ?_ | refine oq_eqS ?_ | refine oq_neS ?_ | refine ow_isN ?_ | refine ow_notN ?_ | refine uw_neg ?_ | refine cw_int ?_ | refine cw_intB ?_ | refine cw_abs ?_ | refine cw_mx2 ?_ | refine cw_mn2 ?_ | refine cw_lenL ?_ | refine cw_lenR ?_ | refine cw_listL ?_ | refine cw_listT ?_ | refine lw_L ?_ | refine ew_revL ?_)
local macro_rules | `(tactic| walk_at "s2") => `(tactic| first
  | ((with_reducible refine' ew_var ?hv ?_); (case hv => exact rfl))
  | ((with_reducible refine' oi_M ?hm ?hi ?_); (case hm => walk_at "m"); (case hi => exact rfl))
  | ((with_reducible refine' ow_ixT ?hi ?_); (case hi => exact rfl))
  | ((with_reducible refine' cl_M ?hm ?_); (case hm => walk_at "m"))
  | ((with_reducible refine' ci_M ?hm ?_); (case hm => walk_at "m"))
  | ((with_reducible refine' ma_app ?hm ?ll ?_); (case hm => walk_at "m"); (case ll => walk_at "l"))
  | ((with_reducible refine' And.intro (ty_A ?hm) ?_); (case hm => walk_at "m"))
  | (with_reducible refine' Exists.intro _ (And.intro ?he ?_); (case he => exact rfl))
  | (with_reducible refine' Exists.intro _ (Exists.intro _ (And.intro ?he ?_)); (case he => exact rfl))
  | (with_reducible refine' Exists.intro _ (Exists.intro _ (Exists.intro _ (And.intro ?he ?_))); (case he => exact rfl))
  | ((with_reducible refine' Exists.intro _ (Exists.intro _ (Exists.intro _ (Exists.intro _ (Exists.intro _ (And.intro ?e1 (And.intro ?e2 (And.intro ?hm (And.intro ?hi ?_))))))))); (case e1 => exact rfl); (case e2 => exact rfl); (case hm => walk_at "m"); (case hi => exact rfl)))
local macro_rules | `(tactic| walk_at "l") => `(tactic| first | assumption | exact lt_sz (by omega) | exact lt_sz (by simp only [List.length_map, List.length_append, List.length_cons, List.length_nil, List.length_take, List.length_drop, List.length_range]; omega))
local macro_rules | `(tactic| walk_at "s") => `(tactic| repeat (first | walk_at "s1" | walk_at "s2"))
local macro_rules | `(tactic| walk_at "sx") => `(tactic| with_reducible first
  | refine swx_of ?_ | refine swx_seq ?_ | refine swx_drop ?_ | refine swx_asg ?_ | refine swx_ret ?_ | refine ewx_fun ?_ | refine ewx_meth ?_ | refine ewx_make ?_ | refine ewx_sub ?_)
local macro_rules | `(tactic| walk_at "s") => `(tactic| repeat (first | walk_at "s1" | walk_at "s2" | walk_at "sx"))
local macro_rules | `(tactic| walk_at "g1") => `(tactic| with_reducible first
  | refine ew_tup2 ?_ | refine ew_tup3 ?_ | refine ew_tup4 ?_ | refine ew_fldI ?_ | refine sw_fldA ?_ | refine ew_dget1 ?_ | refine ew_dget2 ?_ | refine ow_isN ?_)
local macro_rules | `(tactic| walk_at "g2") => `(tactic| first
  | ((with_reducible refine' gw_tup ?e ?_); (case e => exact rfl))
  | ((with_reducible refine' oi_L ?e ?_); (case e => exact rfl))
  | ((refine' Exists.intro _ (And.intro ?cl (And.intro ?na (And.intro ?e ?_)))); (case cl => assumption); (case na => assumption); (case e => exact rfl))
  | ((refine' Exists.intro _ (Exists.intro _ (Exists.intro _ (Exists.intro _ (And.intro ?e (And.intro ?hm (And.intro ?cl (And.intro ?na (And.intro ?l ?_))))))))); (case e => exact rfl); (case hm => walk_at "m"); (case cl => assumption); (case na => assumption); (case l => exact Nat.le_of_ble_eq_true rfl)))
local macro_rules | `(tactic| walk_at "g") => `(tactic| repeat (first | walk_at "s1" | walk_at "s2" | walk_at "sx" | walk_at "g1" | walk_at "g2"))

section
variable {P : Program} {w : World} {K : PySem.W.Frag} {mg : Str → Option Value} {base : Heap} {a : Ads}
theorem getD_mem {α : Type} {l : List α} {i : Nat} {d : α} (h : i < l.length) : l.getD i d ∈ l := by
  rw [List.getD_eq_getElem?_getD, List.getElem?_eq_getElem h]
  exact List.getElem_mem h
/-- a drawn table: so many states, so many calls -/
structure Grid (n k : Nat) (T : Tab) : Prop where
  ok : TabOk T
  len : T.length = n
  wid : ∀ r ∈ T, r.length = k
  ans : ∀ r ∈ T, ∀ s ∈ r, AnsOk s.2
theorem grid_of {k n : Nat} {cols : List (List Step)} (hc : cols.length = k) (n0 : 0 < n) (hcol : ∀ c ∈ cols, Col n c) : Grid n k ((List.range n).map fun s => cols.map fun c => c.getD s (0, none)) := by
  refine ⟨⟨by simpa using n0, fun r hr s hs => ?_⟩, by simp, fun r hr => ?_, fun r hr s hs => ?_⟩
  · obtain ⟨x, hx, rfl⟩ := List.mem_map.mp hr
    obtain ⟨c, hc, rfl⟩ := List.mem_map.mp hs
    have h1 := hcol c hc
    have := (h1.ok _ (getD_mem (d := (0, none)) (i := x) (by rw [h1.len]; exact List.mem_range.mp hx))).1
    simpa using this
  · obtain ⟨x, hx, rfl⟩ := List.mem_map.mp hr
    rw [List.length_map, hc]
  · obtain ⟨x, hx, rfl⟩ := List.mem_map.mp hr
    obtain ⟨c, hc, rfl⟩ := List.mem_map.mp hs
    have h1 := hcol c hc
    exact (h1.ok _ (getD_mem (d := (0, none)) (i := x) (by rw [h1.len]; exact List.mem_range.mp hx))).2
def F_grid : FS := fun ds m Q => ∃ (p : Addr) (c : Cell) (rest : Mem) (n k w : Nat), ds = [.adr p, .int (k : Nat), .int (w : Nat)] ∧ m = (p, c) :: rest ∧ Kit n c ∧ n + 3000 < 2 ^ 40 ∧ 0 < k ∧ k ≤ 25 ∧ w ≤ 14 ∧
  ∀ (T : Tab) (c' : Cell), Grid k w T → Kit (n + 3000) c' → Q (tabD T) ((p, c') :: rest)
theorem use_column {p : Addr} {c : Cell} {rest : Mem} {n k : Nat} {Q : D → Mem → Prop} (hk : Kit n c) (hn : n + 200 < 2 ^ 40) (k0 : 0 < k) (k1 : k ≤ 25) (q : ∀ (r : List Step) (c' : Cell), Col k r → Kit (n + 200) c' → Q (rowD r) ((p, c') :: rest)) : FSn 2 F_column [.adr p, .int (k : Nat)] ((p, c) :: rest) Q :=
  ⟨rfl, p, c, rest, n, k, rfl, rfl, hk, hn, k0, k1, q⟩
theorem ok__law_grid (T : Txt K mg a) : Def P w K mg base 5 a.f__law_grid ["kit", "many", "count"] (FSn 3 (F_grid)) := by
  have nd := sc__law_grid.nd
  have C__law_column := ok__law_column (P := P) (w := w) (base := base) T
  refine defOk T.h__law_grid sc__law_grid (fun _ _ _ h => h.1) (fun cdv A outer s H E hr => by exact (pss_cons (ps_set (i := 3) nd rfl (Or.inr rfl) (pe_lc (own := [("turn", 4)]) (g := (gName 4)) (tt := tYes) rfl nd (pi_range1 (by rfl) T.n_range (pa_cons (pv 2) pa_nil)) (blkOk_by (own := [("turn", 4)]) (N := N__law_grid) (sc := defScope s__law_grid) (by decide +kernel)) (fun _ _ _ _ _ => (pg_name (i := 4) nd rfl (by first | exact Or.inl rfl | exact Or.inr rfl))) (fun _ _ _ _ _ => pts_nil) (fun _ _ _ _ _ => (kx_def K rfl C__law_column (hr.mono (by decide)) rfl T.g__law_column T.k__law_column (pa_cons (pv 0) (pa_cons (pv 1) pa_nil))))))
    (pss_one (ps_ret (pe_lc (own := [("at", 5)]) (g := (gName 5)) (tt := tYes) rfl nd (pi_range1 (by rfl) T.n_range (pa_cons (pv 1) pa_nil)) (blkOk_by (own := [("at", 5)]) (N := N__law_grid) (sc := defScope s__law_grid) (by decide +kernel)) (fun _ _ _ _ _ => (pg_name (i := 5) nd rfl (by first | exact Or.inl rfl | exact Or.inr rfl))) (fun _ _ _ _ _ => pts_nil) (fun _ _ _ _ _ => (pe_lc (own := [("column", 6)]) (g := (gName 6)) (tt := tYes) rfl nd (kx_pi K rfl (pv 3)) (by exact blkIn (own := [("column", 6)]) (N := N__law_grid) (sc0 := defScope s__law_grid) (by decide +kernel)) (fun _ _ _ _ _ => (pg_name (i := 6) nd rfl (by first | exact Or.inl rfl | exact Or.inr rfl))) (fun _ _ _ _ _ => pts_nil) (fun _ _ _ _ _ => (pe_ix (kx_ix K rfl hr.units) (pv 6) (pv 5) (fun _ _ => rfl)))))))))) (fun ds m Q h => ?_)
  replace h := h.2
  clear nd
  obtain ⟨p, c, rest, n, k, w, rfl, rfl, hk, hn, k0, k25, w14, q⟩ := h
  walk_at "s"
  refine ew_lcD (α := Nat) rowD (fun _ r => Col k r) (fun j m' => ∃ c' : Cell, m' = (p, c') :: rest ∧ Kit (n + 200 * j) c') (tame_name (by decide)) (iw_rngN ?_)
  walk_at "s"
  refine ⟨by omega, List.range w, _, rfl, by rw [List.length_range]; exact le_sz (by omega), ⟨c, rfl, hk⟩, ?_, ?_⟩
  · rintro j x acc m' z hx ⟨c', rfl, kc⟩
    obtain ⟨hj, rfl⟩ := range_get hx
    walk_at "s"
    refine ⟨rfl, ?_⟩
    walk_at "s"
    refine use_column kc (by omega) (by omega) (by omega) fun r c4 hr k4 => ?_
    exact ⟨r, (p, c4) :: rest, rfl, hr, rfl, c4, rfl, k4⟩
  · rintro cols m' hl hcol ⟨c4, rfl, k4⟩
    rw [List.length_range] at hl k4
    have hcol' : ∀ c ∈ cols, Col k c := fun c hc => by
      obtain ⟨i, hi⟩ := List.getElem?_of_mem hc
      exact hcol i c hi
    walk_at "s"
    refine ew_lcF (tame_name (by decide)) (iw_rngN ?_)
    walk_at "s"
    refine ⟨by omega, Nat, List.range k, natD, fun s => rowD (cols.map fun c => c.getD s (0, none)), rfl, by rw [List.length_range]; exact le_sz (by omega), ?_, ?_⟩
    · intro s acc z hs
      have hs : s < k := List.mem_range.mp hs
      walk_at "s"
      refine ⟨rfl, ?_⟩
      walk_at "s"
      refine ew_lcF (tame_name (by decide)) (iw_any ?_)
      walk_at "s"
      refine ⟨_, .inl rfl, List Step, cols, rowD, fun c => stepD (c.getD s (0, none)), rfl, le_sz (by omega), ?_, ?_⟩
      · intro c acc2 z2 hc
        have hcl := (hcol' c hc).len
        walk_at "s"
        refine ⟨rfl, ?_⟩
        walk_at "s"
        refine oi_L (at_map (f := stepD) (List.getElem?_eq_getElem (by omega))) ?_
        refine ⟨?_, rfl⟩
        show _ = stepD (c.getD s (0, none))
        rw [List.getD_eq_getElem?_getD, List.getElem?_eq_getElem (by omega)]
        rfl
      · refine ⟨?_, rfl⟩
        show D.lst _ = D.lst _
        rw [List.map_map]
        rfl
    · have gr := grid_of hl k0 hcol'
      have e : D.lst ((List.range k).map fun s => rowD (cols.map fun c => c.getD s (0, none))) = tabD ((List.range k).map fun s => cols.map fun c => c.getD s (0, none)) := by
        show D.lst _ = D.lst _
        rw [List.map_map]
        rfl
      have q2 := q _ c4 gr (k4.up (by omega))
      rw [← e] at q2
      exact q2

end
end DL

set_option Elab.async false
set_option linter.all false
set_option maxRecDepth 100000
set_option maxHeartbeats 4000000
set_option autoImplicit false
namespace DL
open PySem PySem.Spec PyProof.Rows L2
local macro_rules | `(tactic| walk_at "m") => `(tactic| first
  | with_reducible exact MAt.last | with_reducible exact MUp.last
  | exact MAt.zero | exact MUp.zero | exact MAt.last | exact MUp.last
  | (apply MAt.cons; walk_at "m") | (apply MUp.cons; walk_at "m")
  | (apply MAt.app; walk_at "m") | (apply MUp.app; walk_at "m")
  | assumption)
local macro_rules | `(tactic| walk_at "s1") => `(tactic| with_reducible first
  | refine sw_seq ?_ | refine sw_next ?_ | refine sw_ret ?_ | refine sw_retN ?_ | refine sw_asg ?_ | refine sw_asgG ?_ | refine sw_drop ?_ | refine sw_break ?_ | refine sw_cont ?_ | refine sw_par ?_ | refine sw_par3 ?_
  | refine tw_test ?_ | refine tw_B ?_ | refine tw_and ?_ | refine tw_or ?_ | refine tw_not ?_ | refine tw_yes ?_
  | refine ew_op ?_ | refine ew_un ?_ | refine ew_int ?_ | refine ew_non ?_ | refine ew_bl ?_ | refine ew_str ?_ | refine ew_ty ?_ | refine ew_ref ?_ | refine ew_cb ?_ | refine ew_if ?_ | refine ew_andV ?_ | refine ew_orV ?_ | refine ew_notV ?_ | refine ew_chain ?_ | refine ew_sl ?_ | refine pw_no ?_ | refine pw_part ?_
  | refine ew_call0 ?_ | refine ew_kw0 ?_
  | refine aw_nil ?_ | refine aw_cons ?_ | refine ew_bm ?_ | refine ew_bm0 ?_ | refine gs_L ?_
  | refine gs_nil ?_ | refine gs_cons ?_ | refine gw_name ?_
  | refine ow_addI ?_ | refine ow_odd ?_ | refine ow_i0 ?_ | refine ow_b0 ?_ | refine oq_eqI ?_ | refine oq_neI ?_ | refine oq_eqS ?_ | refine oq_neS ?_ | refine ow_isN ?_ | refine ow_notN ?_ | refine uw_neg ?_ | refine cw_int ?_ | refine cw_intB ?_ | refine cw_abs ?_ | refine cw_mx2 ?_ | refine cw_mn2 ?_ | refine cw_lenL ?_ | refine cw_lenR ?_ | refine cw_listL ?_ | refine cw_listT ?_ | refine lw_L ?_ | refine ew_revL ?_)
local macro_rules | `(tactic| walk_at "s2") => `(tactic| first
  | ((with_reducible refine' ew_var ?hv ?_); (case hv => exact rfl))
  | ((with_reducible refine' oi_M ?hm ?hi ?_); (case hm => walk_at "m"); (case hi => exact rfl))
  | ((with_reducible refine' ow_ixT ?hi ?_); (case hi => exact rfl))
  | ((with_reducible refine' cl_M ?hm ?_); (case hm => walk_at "m"))
  | ((with_reducible refine' ci_M ?hm ?_); (case hm => walk_at "m"))
  | ((with_reducible refine' ma_app ?hm ?ll ?_); (case hm => walk_at "m"); (case ll => walk_at "l"))
  | ((with_reducible refine' And.intro (ty_A ?hm) ?_); (case hm => walk_at "m"))
  | (with_reducible refine' Exists.intro _ (And.intro ?he ?_); (case he => exact rfl))
  | (with_reducible refine' Exists.intro _ (Exists.intro _ (And.intro ?he ?_)); (case he => exact rfl))
  | (with_reducible refine' Exists.intro _ (Exists.intro _ (Exists.intro _ (And.intro ?he ?_))); (case he => exact rfl))
  | ((with_reducible refine' Exists.intro _ (Exists.intro _ (Exists.intro _ (Exists.intro _ (Exists.intro _ (And.intro ?e1 (And.intro ?e2 (And.intro ?hm (And.intro ?hi ?_))))))))); (case e1 => exact rfl); (case e2 => exact rfl); (case hm => walk_at "m"); (case hi => exact rfl)))
local macro_rules | `(tactic| walk_at "l") => `(tactic| first | assumption | exact lt_sz (by omega) | exact lt_sz (by simp only [List.length_map, List.length_append, List.length_cons, List.length_nil, List.length_take, List.length_drop, List.length_range]; omega))
local macro_rules | `(tactic| walk_at "s") => `(tactic| repeat (first | walk_at "s1" | walk_at "s2"))
local macro_rules | `(tactic| walk_at "sx") => `(tactic| with_reducible first
  | refine swx_of ?_ | refine swx_seq ?_ | refine swx_drop ?_ | refine swx_asg ?_ | refine swx_ret ?_ | refine ewx_fun ?_ | refine ewx_meth ?_ | refine ewx_make ?_ | refine ewx_sub ?_)
local macro_rules | `(tactic| walk_at "s") => `(tactic| repeat (first | walk_at "s1" | walk_at "s2" | walk_at "sx"))
local macro_rules | `(tactic| walk_at "g1") => `(tactic| with_reducible first
  | refine ew_tup2 ?_ | refine ew_tup3 ?_ | refine ew_tup4 ?_ | refine ew_fldI ?_ | refine sw_fldA ?_ | refine ew_dget1 ?_ | refine ew_dget2 ?_ | refine ow_isN ?_)
local macro_rules | `(tactic| walk_at "g2") => `(tactic| first
  | ((with_reducible refine' gw_tup ?e ?_); (case e => exact rfl))
  | ((with_reducible refine' oi_L ?e ?_); (case e => exact rfl))
  | ((refine' Exists.intro _ (And.intro ?cl (And.intro ?na (And.intro ?e ?_)))); (case cl => assumption); (case na => assumption); (case e => exact rfl))
  | ((refine' Exists.intro _ (Exists.intro _ (Exists.intro _ (Exists.intro _ (And.intro ?e (And.intro ?hm (And.intro ?cl (And.intro ?na (And.intro ?l ?_))))))))); (case e => exact rfl); (case hm => walk_at "m"); (case cl => assumption); (case na => assumption); (case l => exact Nat.le_of_ble_eq_true rfl)))
local macro_rules | `(tactic| walk_at "g") => `(tactic| repeat (first | walk_at "s1" | walk_at "s2" | walk_at "sx" | walk_at "g1" | walk_at "g2"))

section
variable {P : Program} {w : World} {K : PySem.W.Frag} {mg : Str → Option Value} {base : Heap} {a : Ads}
theorem ext_app (o a b : List Nat) : ext o (a ++ b) = ext (ext o a) b := by
  unfold ext
  rw [List.foldl_append]
theorem idx_pre {o O : List Nat} {g : Nat} (h : o <+: O) (hg : g ∈ o) : O.idxOf g = o.idxOf g := by
  obtain ⟨X, rfl⟩ := h
  rw [List.idxOf_append, if_pos hg]
def rowN (T : Tab) (s : Nat) : List Step := (T.getD s []).map fun p => ((fin T).idxOf p.1, p.2)
theorem normT_rows (T : Tab) : normT T = (fin T).map (rowN T) := rfl
def F_walked : FS := fun ds m Q => ∃ T : Tab, ds = [tabD T] ∧ TabOk T ∧ T.length ≤ 1000 ∧ (∀ r ∈ T, r.length ≤ 1000) ∧ Q (tabD (normT T)) m
theorem ok__law_walked (T : Txt K mg a) : Def P w K mg base 2 a.f__law_walked ["grid"] (FSn 1 (F_walked)) := by
  have nd := sc__law_walked.nd
  refine defOk T.h__law_walked sc__law_walked (fun _ _ _ h => h.1) (fun cdv A outer s H E hr => by exact (pss_cons (ps_par (i := 1) (j := 2) rfl nd rfl rfl (by decide) rfl rfl (pa_cons (pe_lst (pa_cons pe_int pa_nil)) (pa_cons (pe_lst pa_nil) pa_nil)) (by rfl))
    (pss_cons (ps_for PassesOwn.never rfl (pi_range1 (by rfl) T.n_range (pa_cons (pe_callB (kx_len K rfl) (by rfl) T.n_len (by decide +kernel) (pa_cons (pv 0) pa_nil)) pa_nil)) (pg_name (i := 3) nd rfl (Or.inl rfl)) (pss_one (ps_if (pt_cmpR op_lt (pv 3) (pe_callB (kx_len K rfl) (by rfl) T.n_len (by decide +kernel) (pa_cons (pv 1) pa_nil)) (nomark _)) (pss_cons (ps_set (i := 4) nd rfl (Or.inl rfl) (pe_lst pa_nil))
    (pss_cons (ps_for PassesOwn.never rfl (kx_pi K rfl (pe_ix (kx_ix K rfl hr.units) (pv 0) (pe_ix (kx_ix K rfl hr.units) (pv 1) (pv 3) (fun _ _ => rfl)) (fun _ _ => rfl))) (kx_tup K rfl (n := 2) (by rfl) (pgs_cons (pg_name (i := 5) nd rfl (Or.inl rfl)) (pgs_cons (pg_name (i := 6) nd rfl (Or.inl rfl)) pgs_nil))) (pss_cons (ps_if (pt_cmpR (kx_notIn K rfl P w rfl rfl hr.units) (pv 5) (pv 1) (by with_unfolding_all rfl)) (pss_one (ps_expr (kx_bm K rfl PySem.F.plainAttrs_list PySem.F.slot_list_append PySem.F.type_list_append mt_append (pv 1) (pa_cons (pv 5) pa_nil)))) pss_nil)
    (pss_one (ps_expr (kx_bm K rfl PySem.F.plainAttrs_list PySem.F.slot_list_append PySem.F.type_list_append mt_append (pv 4) (pa_cons (pe_tup (pa_cons (kx_bm K rfl PySem.F.plainAttrs_list PySem.F.slot_list_index PySem.F.type_list_index (kx_index K rfl (h65 hr)) (pv 1) (pa_cons (pv 5) pa_nil)) (pa_cons (pv 6) pa_nil))) pa_nil))))))
    (pss_one (ps_expr (kx_bm K rfl PySem.F.plainAttrs_list PySem.F.slot_list_append PySem.F.type_list_append mt_append (pv 2) (pa_cons (pv 4) pa_nil)))))) pss_nil)))
    (pss_one (ps_ret (pv 2)))))) (fun ds m Q h => ?_)
  replace h := h.2
  clear nd
  obtain ⟨T, rfl, ok, hT, hR, q⟩ := h
  refine sw_forget ?_
  walk_at "s"
  refine ew_lstM ?_
  walk_at "s"
  refine ⟨Nat.le_of_ble_eq_true rfl, fun z1 => ?_⟩
  walk_at "s"
  refine ew_lstM ?_
  walk_at "s"
  refine ⟨Nat.le_of_ble_eq_true rfl, fun z2 => ?_⟩
  walk_at "s"
  refine sw_forN ?_
  walk_at "s"
  rw [List.length_map]
  refine ⟨by omega, fun j δ' m' => ∃ x3 x4 x5 x6 : Option D, δ' = [some (tabD T), some (.adr z1), some (.adr z2), x3, x4, x5, x6] ∧ m' = m ++ [(z1, .lst ((ordT T j).map natD))] ++ [(z2, .lst (((ordT T j).take j).map fun s => rowD (rowN T s)))], ?_, ?_, ?_⟩
  · exact ⟨_, _, _, _, rfl, rfl⟩
  · rintro j δ' m' hj ⟨x3, x4, x5, x6, rfl, rfl⟩
    walk_at "s"
    refine sw_if ?_
    walk_at "s"
    rw [List.length_map]
    have hl := ordT_len ok j
    refine iteD (fun hc => ?_) (fun hc => ?_)
    · have hc : j < (ordT T j).length := by omega
      have hs : (ordT T j)[j]? = some (ordT T j)[j] := List.getElem?_eq_getElem hc
      have hsl : (ordT T j)[j] < T.length := ordT_lt ok j _ (List.getElem_mem hc)
      have hr : T[(ordT T j)[j]]? = some T[(ordT T j)[j]] := List.getElem?_eq_getElem hsl
      walk_at "s"
      refine ew_lstM ?_
      walk_at "s"
      refine ⟨Nat.le_of_ble_eq_true rfl, fun z3 => ?_⟩
      walk_at "s"
      refine sw_forX (iw_any ?_)
      walk_at "s"
      refine oi_M (by walk_at "m") (at_map (f := natD) hs) ?_
      refine oi_L (at_map (f := rowD) hr) ?_
      have e1 : ordT T (j + 1) = ext (ordT T j) ((T[(ordT T j)[j]]).map (·.1)) := by
        rw [ordT, if_pos hc, List.getD_eq_getElem?_getD, hs]
        unfold goals
        rw [List.getD_eq_getElem?_getD, Option.getD_some, hr]
        rfl
      have hrl := hR _ (List.getElem_mem hsl)
      have hrow : rowN T (ordT T j)[j] = (T[(ordT T j)[j]]).map fun p => ((fin T).idxOf p.1, p.2) := by
        unfold rowN
        rw [List.getD_eq_getElem?_getD, hr]
        rfl
      generalize hg : T[(ordT T j)[j]] = row at hr e1 hrl hrow ⊢
      have hpre : ∀ i, ext (ordT T j) ((row.take i).map (·.1)) <+: fin T := fun i => by
        have h1 : ext (ordT T j) ((row.take i).map (·.1)) <+: ordT T (j + 1) := by
          rw [e1]
          conv => rhs; rw [← List.take_append_drop i row, List.map_append, ext_app]
          exact ext_pre _ _
        exact h1.trans (fin_pre (by omega))
      refine ⟨_, .inl rfl, Step, row, stepD, rfl, fun i δ' m' => ∃ x5 x6 : Option D, δ' = [some (tabD T), some (.adr z1), some (.adr z2), some (.int (j : Nat)), some (.adr z3), x5, x6] ∧ m' = m ++ [(z1, .lst ((ext (ordT T j) ((row.take i).map (·.1))).map natD))] ++ [(z2, .lst (((ordT T j).take j).map fun s => rowD (rowN T s)))] ++ [(z3, .lst ((row.take i).map fun p => stepD ((fin T).idxOf p.1, p.2)))], ?_, ?_, ?_⟩
      · exact ⟨_, _, rfl, rfl⟩
      · rintro i ⟨g, t⟩ δ' m' hi ⟨x5, x6, rfl, rfl⟩
        have hil := (List.getElem?_eq_some_iff.mp hi).1
        have et : row.take (i + 1) = row.take i ++ [(g, t)] := by rw [List.take_add_one, hi]; rfl
        have et2 : (row.take (i + 1)).map (·.1) = (row.take i).map (·.1) ++ [g] := by rw [et, List.map_append]; rfl
        have hlen := nd_le T.length (ext (ordT T j) ((row.take i).map (·.1))) (ext_nd _ _ (ordT_nd T j)) fun x hx => fin_lt ok ((hpre i).subset hx)
        have hgm : g ∈ ext (ordT T j) ((row.take (i + 1)).map (·.1)) := (ext_mem _ _).mpr (.inr (by rw [et2]; simp))
        have hix := idx_pre (hpre (i + 1)) hgm
        refine gw_tup rfl ?_
        walk_at "s"
        refine sw_ifJ (fun δ' m' => δ' = [some (tabD T), some (.adr z1), some (.adr z2), some (.int (j : Nat)), some (.adr z3), some (.int (g : Nat)), some (ansD t)] ∧ m' = m ++ [(z1, .lst ((ext (ordT T j) ((row.take (i + 1)).map (·.1))).map natD))] ++ [(z2, .lst (((ordT T j).take j).map fun s => rowD (rowN T s)))] ++ [(z3, .lst ((row.take i).map fun p => stepD ((fin T).idxOf p.1, p.2)))]) ?_ ?_
        · walk_at "s"
          refine nin_nM (by walk_at "m") ?_
          walk_at "s"
          refine iteN (fun hn => ?_) (fun hn => ?_)
          · walk_at "s"
            refine ⟨rfl, ?_⟩
            rw [et2, ext_snoc, if_neg hn, List.map_append]
            rfl
          · walk_at "s"
            refine ⟨rfl, ?_⟩
            rw [et2, ext_snoc, if_pos hn]
        · rintro δ' m' ⟨rfl, rfl⟩
          walk_at "s"
          refine ew_tup ?_
          walk_at "s"
          refine mi_nM (by walk_at "m") hgm ?_
          walk_at "s"
          refine ⟨Nat.le_of_ble_eq_true rfl, ?_⟩
          walk_at "s"
          first | refine ⟨_, _, rfl, ?_⟩ | skip
          have et3 : ((row.take (i + 1)).map fun p => stepD ((fin T).idxOf p.1, p.2)) = ((row.take i).map fun p => stepD ((fin T).idxOf p.1, p.2)) ++ [stepD ((fin T).idxOf g, t)] := by rw [et, List.map_append]; rfl
          rw [← hix, et3]
      · rintro δ' m' ⟨x5, x6, rfl, rfl⟩
        have em : (row.map fun p => stepD ((fin T).idxOf p.1, p.2)) = (rowN T (ordT T j)[j]).map stepD := by
          rw [hrow, List.map_map]
          rfl
        rw [List.take_length, ← e1, em]
        have hp := ordT_pre1 T j
        have hc1 : j < (ordT T (j + 1)).length := Nat.lt_of_lt_of_le hc hp.length_le
        refine sw_drop (ew_bm (ew_var rfl ⟨ty_A (by walk_at "m"), aw_cons (ew_still (ew_var rfl ⟨_, _, _, _, rfl, rfl, rfl, ?_⟩))⟩))
        walk_at "s"
        first | refine ⟨_, _, _, _, rfl, ?_⟩ | skip
        have et : ((ordT T (j + 1)).take (j + 1)) = (ordT T j).take j ++ [(ordT T j)[j]] := by
          rw [List.take_add_one, List.getElem?_eq_getElem hc1]
          have h1 : (ordT T (j + 1)).take j = (ordT T j).take j := by
            obtain ⟨X, hX⟩ := hp
            rw [← hX, List.take_append_of_le_length (by omega)]
          have h2 : (ordT T j)[j] = (ordT T (j + 1))[j] := hp.getElem hc
          rw [h1, h2]
          rfl
        rw [et, List.map_append]
        rfl
    · walk_at "s"
      have e : ordT T (j + 1) = ordT T j := by rw [ordT, if_neg (by omega)]
      show ∃ x3 x4 x5 x6 : Option D, _ = _ ∧ _ = _
      rw [e, List.take_of_length_le (show (ordT T j).length ≤ j + 1 by omega), List.take_of_length_le (show (ordT T j).length ≤ j by omega)]
      exact ⟨_, _, _, _, rfl, rfl⟩
  · rintro δ' m' ⟨x3, x4, x5, x6, rfl, rfl⟩
    have hfl : (ordT T T.length).length ≤ T.length := fin_len ok
    rw [List.take_of_length_le hfl]
    have e : D.lst ((ordT T T.length).map fun s => rowD (rowN T s)) = tabD (normT T) := by
      show D.lst _ = D.lst _
      rw [normT_rows, List.map_map]
      rfl
    refine sw_ret (ew_still (ew_var rfl ⟨_, _, _, _, rfl, rfl, rfl, _, _, m, rfl, ?_⟩))
    show Q (D.lst ((ordT T T.length).map fun s => rowD (rowN T s))) m
    rw [e]
    exact q

end
end DL

set_option Elab.async false
set_option linter.all false
set_option maxRecDepth 100000
set_option maxHeartbeats 4000000
set_option autoImplicit false
namespace DL
open PySem PySem.Spec PyProof.Rows L2
local macro_rules | `(tactic| walk_at "m") => `(tactic| first
  | with_reducible exact MAt.last | with_reducible exact MUp.last
  | exact MAt.zero | exact MUp.zero | exact MAt.last | exact MUp.last
  | (apply MAt.cons; walk_at "m") | (apply MUp.cons; walk_at "m")
  | (apply MAt.app; walk_at "m") | (apply MUp.app; walk_at "m")
  | assumption)
local macro_rules | `(tactic| walk_at "s1") => `(tactic| with_reducible first
  | refine sw_seq ?_ | refine sw_next ?_ | refine sw_ret ?_ | refine sw_retN ?_ | refine sw_asg ?_ | refine sw_asgG ?_ | refine sw_drop ?_ | refine sw_break ?_ | refine sw_cont ?_ | refine sw_par ?_ | refine sw_par3 ?_
  | refine tw_test ?_ | refine tw_B ?_ | refine tw_and ?_ | refine tw_or ?_ | refine tw_not ?_ | refine tw_yes ?_
  | refine ew_op ?_ | refine ew_un ?_ | refine ew_int ?_ | refine ew_non ?_ | refine ew_bl ?_ | refine ew_str ?_ | refine ew_ty ?_ | refine ew_ref ?_ | refine ew_cb ?_ | refine ew_if ?_ | refine ew_andV ?_ | refine ew_orV ?_ | refine ew_notV ?_ | refine ew_chain ?_ | refine ew_sl ?_ | refine pw_no ?_ | refine pw_part ?_
  | refine ew_call0 ?_ | refine ew_kw0 ?_
  | refine aw_nil ?_ | refine aw_cons ?_ | refine ew_bm ?_ | refine ew_bm0 ?_ | refine gs_L ?_
  | refine gs_nil ?_ | refine gs_cons ?_ | refine gw_name ?_
  | refine ow_addI ?_ | refine ow_odd ?_ | refine ow_i0 ?_ | refine ow_b0 ?_ | refine oq_eqI ?_ | refine oq_neI ?_ | refine oq_eqS ?_ | refine oq_neS ?_ | refine ow_isN ?_ | refine ow_notN ?_ | refine uw_neg ?_ | refine cw_int ?_ | refine cw_intB ?_ | refine cw_abs ?_ | refine cw_mx2 ?_ | refine cw_mn2 ?_ | refine cw_lenL ?_ | refine cw_lenR ?_ | refine cw_listL ?_ | refine cw_listT ?_ | refine lw_L ?_ | refine ew_revL ?_)
local macro_rules | `(tactic| walk_at "s2") => `(tactic| first
  | ((with_reducible refine' ew_var ?hv ?_); (case hv => exact rfl))
  | ((with_reducible refine' oi_M ?hm ?hi ?_); (case hm => walk_at "m"); (case hi => exact rfl))
  | ((with_reducible refine' ow_ixT ?hi ?_); (case hi => exact rfl))
  | ((with_reducible refine' cl_M ?hm ?_); (case hm => walk_at "m"))
  | ((with_reducible refine' ci_M ?hm ?_); (case hm => walk_at "m"))
  | ((with_reducible refine' ma_app ?hm ?ll ?_); (case hm => walk_at "m"); (case ll => walk_at "l"))
  | ((with_reducible refine' And.intro (ty_A ?hm) ?_); (case hm => walk_at "m"))
  | (with_reducible refine' Exists.intro _ (And.intro ?he ?_); (case he => exact rfl))
  | (with_reducible refine' Exists.intro _ (Exists.intro _ (And.intro ?he ?_)); (case he => exact rfl))
  | (with_reducible refine' Exists.intro _ (Exists.intro _ (Exists.intro _ (And.intro ?he ?_))); (case he => exact rfl))
  | ((with_reducible refine' Exists.intro _ (Exists.intro _ (Exists.intro _ (Exists.intro _ (Exists.intro _ (And.intro ?e1 (And.intro ?e2 (And.intro ?hm (And.intro ?hi ?_))))))))); (case e1 => exact rfl); (case e2 => exact rfl); (case hm => walk_at "m"); (case hi => exact rfl)))
local macro_rules | `(tactic| walk_at "l") => `(tactic| first | assumption | exact lt_sz (by omega) | exact lt_sz (by simp only [List.length_map, List.length_append, List.length_cons, List.length_nil, List.length_take, List.length_drop, List.length_range]; omega))
local macro_rules | `(tactic| walk_at "s") => `(tactic| repeat (first | walk_at "s1" | walk_at "s2"))
local macro_rules | `(tactic| walk_at "sx") => `(tactic| with_reducible first
  | refine swx_of ?_ | refine swx_seq ?_ | refine swx_drop ?_ | refine swx_asg ?_ | refine swx_ret ?_ | refine ewx_fun ?_ | refine ewx_meth ?_ | refine ewx_make ?_ | refine ewx_sub ?_)
local macro_rules | `(tactic| walk_at "s") => `(tactic| repeat (first | walk_at "s1" | walk_at "s2" | walk_at "sx"))
local macro_rules | `(tactic| walk_at "g1") => `(tactic| with_reducible first
  | refine ew_tup2 ?_ | refine ew_tup3 ?_ | refine ew_tup4 ?_ | refine ew_fldI ?_ | refine sw_fldA ?_ | refine ew_dget1 ?_ | refine ew_dget2 ?_ | refine ow_isN ?_)
local macro_rules | `(tactic| walk_at "g2") => `(tactic| first
  | ((with_reducible refine' gw_tup ?e ?_); (case e => exact rfl))
  | ((with_reducible refine' oi_L ?e ?_); (case e => exact rfl))
  | ((refine' Exists.intro _ (And.intro ?cl (And.intro ?na (And.intro ?e ?_)))); (case cl => assumption); (case na => assumption); (case e => exact rfl))
  | ((refine' Exists.intro _ (Exists.intro _ (Exists.intro _ (Exists.intro _ (And.intro ?e (And.intro ?hm (And.intro ?cl (And.intro ?na (And.intro ?l ?_))))))))); (case e => exact rfl); (case hm => walk_at "m"); (case cl => assumption); (case na => assumption); (case l => exact Nat.le_of_ble_eq_true rfl)))
local macro_rules | `(tactic| walk_at "g") => `(tactic| repeat (first | walk_at "s1" | walk_at "s2" | walk_at "sx" | walk_at "g1" | walk_at "g2"))

section
variable {P : Program} {w : World} {K : PySem.W.Frag} {mg : Str → Option Value} {base : Heap} {a : Ads}
/-- a table of a service with these calls -/
structure Svc (ws : List Str) (T : Tab) : Prop where
  ok : TabOk T
  wid : ∀ r ∈ T, r.length = ws.length
  str : ∀ x ∈ ws, PyData.strOk x = true
  le : T.length ≤ 1000
  few : ws.length ≤ 1000
end
end DL

set_option Elab.async false
set_option linter.all false
set_option maxRecDepth 100000
set_option maxHeartbeats 4000000
set_option autoImplicit false
namespace DL
open PySem PySem.Spec PyProof.Rows L2
local macro_rules | `(tactic| walk_at "m") => `(tactic| first
  | with_reducible exact MAt.last | with_reducible exact MUp.last
  | exact MAt.zero | exact MUp.zero | exact MAt.last | exact MUp.last
  | (apply MAt.cons; walk_at "m") | (apply MUp.cons; walk_at "m")
  | (apply MAt.app; walk_at "m") | (apply MUp.app; walk_at "m")
  | assumption)
local macro_rules | `(tactic| walk_at "s1") => `(tactic| with_reducible first
  | refine sw_seq ?_ | refine sw_next ?_ | refine sw_ret ?_ | refine sw_retN ?_ | refine sw_asg ?_ | refine sw_asgG ?_ | refine sw_drop ?_ | refine sw_break ?_ | refine sw_cont ?_ | refine sw_par ?_ | refine sw_par3 ?_
  | refine tw_test ?_ | refine tw_B ?_ | refine tw_and ?_ | refine tw_or ?_ | refine tw_not ?_ | refine tw_yes ?_
  | refine ew_op ?_ | refine ew_un ?_ | refine ew_int ?_ | refine ew_non ?_ | refine ew_bl ?_ | refine ew_str ?_ | refine ew_ty ?_ | refine ew_ref ?_ | refine ew_cb ?_ | refine ew_if ?_ | refine ew_andV ?_ | refine ew_orV ?_ | refine ew_notV ?_ | refine ew_chain ?_ | refine ew_sl ?_ | refine pw_no ?_ | refine pw_part ?_
  | refine ew_call0 ?_ | refine ew_kw0 ?_
  | refine aw_nil ?_ | refine aw_cons ?_ | refine ew_bm ?_ | refine ew_bm0 ?_ | refine gs_L ?_
  | refine gs_nil ?_ | refine gs_cons ?_ | refine gw_name ?_
  | refine ow_addI ?_ | refine ow_odd ?_ | refine ow_i0 ?_ | refine ow_b0 ?_ | refine oq_eqI ?_ | refine oq_neI ?_ | refine oq_eqS ?_ | refine oq_neS ?_ | refine ow_isN ?_ | refine ow_notN ?_ | refine uw_neg ?_ | refine cw_int ?_ | refine cw_intB ?_ | refine cw_abs ?_ | refine cw_mx2 ?_ | refine cw_mn2 ?_ | refine cw_lenL ?_ | refine cw_lenR ?_ | refine cw_listL ?_ | refine cw_listT ?_ | refine lw_L ?_ | refine ew_revL ?_)
local macro_rules | `(tactic| walk_at "s2") => `(tactic| first
  | ((with_reducible refine' ew_var ?hv ?_); (case hv => exact rfl))
  | ((with_reducible refine' oi_M ?hm ?hi ?_); (case hm => walk_at "m"); (case hi => exact rfl))
  | ((with_reducible refine' ow_ixT ?hi ?_); (case hi => exact rfl))
  | ((with_reducible refine' cl_M ?hm ?_); (case hm => walk_at "m"))
  | ((with_reducible refine' ci_M ?hm ?_); (case hm => walk_at "m"))
  | ((with_reducible refine' ma_app ?hm ?ll ?_); (case hm => walk_at "m"); (case ll => walk_at "l"))
  | ((with_reducible refine' And.intro (ty_A ?hm) ?_); (case hm => walk_at "m"))
  | (with_reducible refine' Exists.intro _ (And.intro ?he ?_); (case he => exact rfl))
  | (with_reducible refine' Exists.intro _ (Exists.intro _ (And.intro ?he ?_)); (case he => exact rfl))
  | (with_reducible refine' Exists.intro _ (Exists.intro _ (Exists.intro _ (And.intro ?he ?_))); (case he => exact rfl))
  | ((with_reducible refine' Exists.intro _ (Exists.intro _ (Exists.intro _ (Exists.intro _ (Exists.intro _ (And.intro ?e1 (And.intro ?e2 (And.intro ?hm (And.intro ?hi ?_))))))))); (case e1 => exact rfl); (case e2 => exact rfl); (case hm => walk_at "m"); (case hi => exact rfl)))
local macro_rules | `(tactic| walk_at "l") => `(tactic| first | assumption | exact lt_sz (by omega) | exact lt_sz (by simp only [List.length_map, List.length_append, List.length_cons, List.length_nil, List.length_take, List.length_drop, List.length_range]; omega))
local macro_rules | `(tactic| walk_at "s") => `(tactic| repeat (first | walk_at "s1" | walk_at "s2"))
local macro_rules | `(tactic| walk_at "sx") => `(tactic| with_reducible first
  | refine swx_of ?_ | refine swx_seq ?_ | refine swx_drop ?_ | refine swx_asg ?_ | refine swx_ret ?_ | refine ewx_fun ?_ | refine ewx_meth ?_ | refine ewx_make ?_ | refine ewx_sub ?_)
local macro_rules | `(tactic| walk_at "s") => `(tactic| repeat (first | walk_at "s1" | walk_at "s2" | walk_at "sx"))
local macro_rules | `(tactic| walk_at "g1") => `(tactic| with_reducible first
  | refine ew_tup2 ?_ | refine ew_tup3 ?_ | refine ew_tup4 ?_ | refine ew_fldI ?_ | refine sw_fldA ?_ | refine ew_dget1 ?_ | refine ew_dget2 ?_ | refine ow_isN ?_)
local macro_rules | `(tactic| walk_at "g2") => `(tactic| first
  | ((with_reducible refine' gw_tup ?e ?_); (case e => exact rfl))
  | ((with_reducible refine' oi_L ?e ?_); (case e => exact rfl))
  | ((refine' Exists.intro _ (And.intro ?cl (And.intro ?na (And.intro ?e ?_)))); (case cl => assumption); (case na => assumption); (case e => exact rfl))
  | ((refine' Exists.intro _ (Exists.intro _ (Exists.intro _ (Exists.intro _ (And.intro ?e (And.intro ?hm (And.intro ?cl (And.intro ?na (And.intro ?l ?_))))))))); (case e => exact rfl); (case hm => walk_at "m"); (case cl => assumption); (case na => assumption); (case l => exact Nat.le_of_ble_eq_true rfl)))
local macro_rules | `(tactic| walk_at "g") => `(tactic| repeat (first | walk_at "s1" | walk_at "s2" | walk_at "sx" | walk_at "g1" | walk_at "g2"))

section
variable {P : Program} {w : World} {K : PySem.W.Frag} {mg : Str → Option Value} {base : Heap} {a : Ads}
theorem use_cnameQ {iN : Addr} {x : Str} {m : Mem} {Q : D → Mem → Prop} (h : nameB x = true) (q : Q .non m) : FX.quiet (FXn 1 (F_cname iN)) [.str x] m Q := ⟨rfl, x, rfl, le_sz (by have := nameB_len h; omega), (fun h' => by rw [h] at h'; cases h'), fun _ => q⟩
def F_checknames : FS := fun ds m Q => ∃ ws : List Str, ds = [.lst (ws.map .str)] ∧ (∀ x ∈ ws, nameB x = true) ∧ ws.Nodup ∧ ws.length ≤ 1000 ∧ Q .non m
theorem ok_check_names (T : Txt K mg a) : Def P w K mg base 5 a.f_check_names ["names"] (FSn 1 (F_checknames)) := by
  have nd := sc_check_names.nd
  have C_check_name := ok_check_name (P := P) (w := w) (base := base) T
  refine defOk T.h_check_names sc_check_names (fun _ _ _ h => h.1) (fun cdv A outer s H E hr => by exact (pss_cons (ps_set (i := 1) nd rfl (Or.inl rfl) (pe_callTy0 (kx_set0 K rfl P w rfl rfl) (by rfl) T.n_set (by decide +kernel)))
    (pss_one (ps_for PassesOwn.never rfl (kx_pi K rfl (pv 0)) (pg_name (i := 2) nd rfl (Or.inl rfl)) (pss_cons (ps_expr (kx_def K rfl C_check_name (hr.mono (by decide)) rfl T.g_check_name T.k_check_name (pa_cons (pv 2) pa_nil)))
    (pss_cons (ps_if (pt_cmpR (kx_in K rfl P w rfl rfl hr.units) (pv 2) (pv 1) (by with_unfolding_all rfl)) (pss_one ps_never) pss_nil)
    (pss_one (ps_expr (kx_sadd K rfl P w rfl rfl (pv 1) (pa_cons (pv 2) pa_nil)))))))))) (fun ds m Q h => ?_)
  replace h := h.2
  clear nd
  obtain ⟨ws, rfl, hn, nd, hl, q⟩ := h
  refine sw_forget ?_
  walk_at "s"
  refine cw_set0 fun z => ?_
  walk_at "s"
  refine sw_forX (iw_any ?_)
  walk_at "s"
  refine ⟨_, .inl rfl, Str, ws, D.str, rfl, fun j δ' m' => ∃ (x2 : Option D) (S : Key → Bool) (n : Nat), δ' = [some (.lst (ws.map .str)), some (.adr z), x2] ∧ m' = m ++ [(z, setC P w z S n)] ∧ (∀ x : Str, S (.inr x) = decide (x ∈ ws.take j)) ∧ n ≤ j, ?_, ?_, ?_⟩
  · exact ⟨_, _, _, rfl, rfl, fun x => rfl, Nat.le_refl _⟩
  · rintro j l δ' m' hj ⟨x2, S, n, rfl, rfl, hS, hnj⟩
    have hjl := (List.getElem?_eq_some_iff.mp hj).1
    have et : ws.take (j + 1) = ws.take j ++ [l] := by rw [List.take_add_one, hj]; rfl
    have hno : S (.inr l) = false := by
      rw [hS]
      refine decide_eq_false fun hm => ?_
      have n2 : (ws.take (j + 1)).Nodup := nd.sublist (List.take_sublist _ _)
      rw [et] at n2
      exact (List.nodup_append.mp n2).2.2 l hm l (by simp) rfl
    walk_at "s"
    refine use_cnameQ (hn l (List.mem_of_getElem? hj)) ?_
    walk_at "s"
    refine sw_if ?_
    walk_at "s"
    refine in_S (x := .inr l) (by walk_at "m") ?_
    rw [hno]
    walk_at "s"
    rw [if_neg Bool.false_ne_true]
    walk_at "s"
    refine ew_saddA ?_
    walk_at "s"
    refine ⟨⟨z, S, n, rfl, by walk_at "m"⟩, ?_⟩
    walk_at "s"
    refine ⟨z, S, n, .inr l, _, rfl, rfl, by walk_at "m", by show n + 1 < 4096; omega, ?_⟩
    refine ⟨_, _, _, rfl, rfl, fun x => ?_, by rw [hno, if_neg Bool.false_ne_true]; omega⟩
    show (S (.inr x) || decide (Sum.inr x = (Sum.inr l : Key))) = _
    rw [hS, et]
    by_cases e : x = l
    · subst e
      simp
    · simp [e]
  · rintro δ' m' ⟨x2, S, n, rfl, rfl, hS, hnj⟩
    exact ⟨_, _, m, rfl, q⟩
def F_isstate : FS := fun ds m Q => ∃ n k : Int, ds = [.int n, .int k] ∧ Q (.bl (decide (0 ≤ n) && decide (n < k))) m
theorem ok_is_state (T : Txt K mg a) : Def P w K mg base 2 a.f_is_state ["number", "many"] (FSn 2 (F_isstate)) := by
  have nd := sc_is_state.nd
  refine defOk T.h_is_state sc_is_state (fun _ _ _ h => h.1) (fun cdv A outer s H E hr => by exact (pss_cons (ps_if (PW.pt (pw_or (pt_not (pt_val (pe_callB (kx_isi K rfl) (by rfl) T.n_isinstance (by decide +kernel) (pa_cons (pv 0) (pa_cons (pe_bltn (v := .ty "int") (by rfl) T.n_int (by decide +kernel) rfl) pa_nil))))) (pw_or1 (pt_val (pe_callB (kx_isi K rfl) (by rfl) T.n_isinstance (by decide +kernel) (pa_cons (pv 0) (pa_cons (pe_bltn (v := .ty "bool") (by rfl) T.n_bool (by decide +kernel) rfl) pa_nil))))))) (pss_one (ps_ret pe_bl)) pss_nil)
    (pss_one (ps_ret (pe_chain op_le op_lt pe_int (pv 0) (pv 1)))))) (fun ds m Q h => ?_)
  replace h := h.2
  clear nd
  obtain ⟨n, k, rfl, q⟩ := h
  walk_at "s"
  refine sw_if ?_
  walk_at "s"
  refine cw_isi (n := "int") (b := true) rfl rfl (fun _ h => nomatch h) ?_
  walk_at "s"
  rw [if_neg (by decide)]
  walk_at "s"
  refine cw_isi (n := "int") (b := false) rfl rfl (fun _ h => nomatch h) ?_
  walk_at "s"
  rw [if_neg (by decide)]
  walk_at "s"
  refine iteD (fun h1 => ?_) (fun h1 => ?_)
  · walk_at "s"
    rw [decide_eq_true h1] at q
    exact q
  · rw [decide_eq_false h1] at q
    exact q
theorem use_isstate {n k : Int} {m : Mem} {Q : D → Mem → Prop} (q : Q (.bl (decide (0 ≤ n) && decide (n < k))) m) : FSn 2 F_isstate [.int n, .int k] m Q := ⟨rfl, n, k, rfl, q⟩
theorem use_isstate1 {n k : Nat} {m : Mem} {Q : D → Mem → Prop} (h : n < k) (q : Q (.bl true) m) : FSn 2 F_isstate [.int (n : Nat), .int (k : Nat)] m Q := use_isstate (by
  rw [decide_eq_true (by omega : (0 : Int) ≤ (n : Nat)), decide_eq_true (by omega : ((n : Nat) : Int) < (k : Nat))]
  exact q)
def F_checktable : FS := fun ds m Q => ∃ (T : Tab) (k : Nat), ds = [tabD T, .int (k : Nat)] ∧ (∀ r ∈ T, r.length = k) ∧ (∀ r ∈ T, ∀ s ∈ r, s.1 < T.length) ∧ T.length ≤ 1000 ∧ k ≤ 1000 ∧ Q .non m
theorem ok_check_table (T : Txt K mg a) : Def P w K mg base 3 a.f_check_table ["table", "width"] (FSn 2 (F_checktable)) := by
  have nd := sc_check_table.nd
  have C_is_state := ok_is_state (P := P) (w := w) (base := base) T
  refine defOk T.h_check_table sc_check_table (fun _ _ _ h => h.1) (fun cdv A outer s H E hr => by exact (pss_one (ps_for PassesOwn.never rfl (kx_enum K rfl (by rfl) T.n_enumerate (pa_cons (pv 0) pa_nil)) (kx_tup K rfl (n := 2) (by rfl) (pgs_cons (pg_name (i := 2) nd rfl (Or.inl rfl)) (pgs_cons (pg_name (i := 3) nd rfl (Or.inl rfl)) pgs_nil))) (pss_cons (ps_if (pt_cmpR (kx_neU K rfl hr.units) (pe_callB (kx_len K rfl) (by rfl) T.n_len (by decide +kernel) (pa_cons (pv 3) pa_nil)) (pv 1) (nomark _)) (pss_one ps_never) pss_nil)
    (pss_one (ps_for PassesOwn.never rfl (kx_pi K rfl (pv 3)) (pg_name (i := 4) nd rfl (Or.inl rfl)) (pss_one (ps_if (pt_not (pt_val (kx_def K rfl C_is_state (hr.mono (by decide)) rfl T.g_is_state T.k_is_state (pa_cons (pe_ix (kx_ix K rfl hr.units) (pv 4) pe_int (fun _ _ => rfl)) (pa_cons (pe_callB (kx_len K rfl) (by rfl) T.n_len (by decide +kernel) (pa_cons (pv 0) pa_nil)) pa_nil))))) (pss_one ps_never) pss_nil)))))))) (fun ds m Q h => ?_)
  replace h := h.2
  clear nd
  obtain ⟨T, k, rfl, hw, hg, hT, hk, q⟩ := h
  refine sw_forX (iw_enum ?_)
  walk_at "s"
  rw [enumD_map]
  refine ⟨List Step × Nat, T.zipIdx, fun p => .tup [.int (p.2 : Nat), rowD p.1], rfl, fun j δ' m' => ∃ x2 x3 x4 : Option D, δ' = [some (tabD T), some (.int (k : Nat)), x2, x3, x4] ∧ m' = m, ?_, ?_, ?_⟩
  · exact ⟨_, _, _, rfl, rfl⟩
  · rintro j ⟨r, i⟩ δ' m' hj ⟨x2, x3, x4, rfl, rfl⟩
    have hr : r ∈ T := by
      have := List.mem_of_getElem? hj
      exact (List.mem_zipIdx this).2.2 ▸ List.getElem_mem _
    refine gw_tup rfl ?_
    walk_at "s"
    refine sw_if ?_
    walk_at "s"
    rw [List.length_map, hw r hr]
    refine iteN (fun h0 => absurd rfl h0) (fun h0 => ?_)
    walk_at "s"
    refine sw_forX (iw_any ?_)
    walk_at "s"
    refine ⟨_, .inl rfl, Step, r, stepD, rfl, fun j δ' m2 => ∃ x4 : Option D, δ' = [some (tabD T), some (.int (k : Nat)), some (.int (i : Nat)), some (rowD r), x4] ∧ m2 = m', ?_, ?_, ?_⟩
    · exact ⟨_, rfl, rfl⟩
    · rintro j2 s δ' m2 hj2 ⟨x4, rfl, rfl⟩
      walk_at "s"
      refine sw_if ?_
      walk_at "s"
      rw [List.length_map]
      refine use_isstate1 (hg r hr s (List.mem_of_getElem? hj2)) ?_
      walk_at "s"
      rw [if_neg (by decide)]
      walk_at "s"
      exact ⟨_, rfl, rfl⟩
    · rintro δ' m2 ⟨x4, rfl, rfl⟩
      exact ⟨_, _, _, rfl, rfl⟩
  · rintro δ' m' ⟨x2, x3, x4, rfl, rfl⟩
    exact q

end
end DL

set_option Elab.async false
set_option linter.all false
set_option maxRecDepth 100000
set_option maxHeartbeats 4000000
set_option autoImplicit false
namespace DL
open PySem PySem.Spec PyProof.Rows L2
local macro_rules | `(tactic| walk_at "m") => `(tactic| first
  | with_reducible exact MAt.last | with_reducible exact MUp.last
  | exact MAt.zero | exact MUp.zero | exact MAt.last | exact MUp.last
  | (apply MAt.cons; walk_at "m") | (apply MUp.cons; walk_at "m")
  | (apply MAt.app; walk_at "m") | (apply MUp.app; walk_at "m")
  | assumption)
local macro_rules | `(tactic| walk_at "s1") => `(tactic| with_reducible first
  | refine sw_seq ?_ | refine sw_next ?_ | refine sw_ret ?_ | refine sw_retN ?_ | refine sw_asg ?_ | refine sw_asgG ?_ | refine sw_drop ?_ | refine sw_break ?_ | refine sw_cont ?_ | refine sw_par ?_ | refine sw_par3 ?_
  | refine tw_test ?_ | refine tw_B ?_ | refine tw_and ?_ | refine tw_or ?_ | refine tw_not ?_ | refine tw_yes ?_
  | refine ew_op ?_ | refine ew_un ?_ | refine ew_int ?_ | refine ew_non ?_ | refine ew_bl ?_ | refine ew_str ?_ | refine ew_ty ?_ | refine ew_ref ?_ | refine ew_cb ?_ | refine ew_if ?_ | refine ew_andV ?_ | refine ew_orV ?_ | refine ew_notV ?_ | refine ew_chain ?_ | refine ew_sl ?_ | refine pw_no ?_ | refine pw_part ?_
  | refine ew_call0 ?_ | refine ew_kw0 ?_
  | refine aw_nil ?_ | refine aw_cons ?_ | refine ew_bm ?_ | refine ew_bm0 ?_ | refine gs_L ?_
  | refine gs_nil ?_ | refine gs_cons ?_ | refine gw_name ?_
  | refine ow_addI ?_ | refine ow_odd ?_ | refine ow_i0 ?_ | refine ow_b0 ?_ | refine oq_eqI ?_ | refine oq_neI ?_ | refine oq_eqS ?_ | refine oq_neS ?_ | refine ow_isN ?_ | refine ow_notN ?_ | refine uw_neg ?_ | refine cw_int ?_ | refine cw_intB ?_ | refine cw_abs ?_ | refine cw_mx2 ?_ | refine cw_mn2 ?_ | refine cw_lenL ?_ | refine cw_lenR ?_ | refine cw_listL ?_ | refine cw_listT ?_ | refine lw_L ?_ | refine ew_revL ?_)
local macro_rules | `(tactic| walk_at "s2") => `(tactic| first
  | ((with_reducible refine' ew_var ?hv ?_); (case hv => exact rfl))
  | ((with_reducible refine' oi_M ?hm ?hi ?_); (case hm => walk_at "m"); (case hi => exact rfl))
  | ((with_reducible refine' ow_ixT ?hi ?_); (case hi => exact rfl))
  | ((with_reducible refine' cl_M ?hm ?_); (case hm => walk_at "m"))
  | ((with_reducible refine' ci_M ?hm ?_); (case hm => walk_at "m"))
  | ((with_reducible refine' ma_app ?hm ?ll ?_); (case hm => walk_at "m"); (case ll => walk_at "l"))
  | ((with_reducible refine' And.intro (ty_A ?hm) ?_); (case hm => walk_at "m"))
  | (with_reducible refine' Exists.intro _ (And.intro ?he ?_); (case he => exact rfl))
  | (with_reducible refine' Exists.intro _ (Exists.intro _ (And.intro ?he ?_)); (case he => exact rfl))
  | (with_reducible refine' Exists.intro _ (Exists.intro _ (Exists.intro _ (And.intro ?he ?_))); (case he => exact rfl))
  | ((with_reducible refine' Exists.intro _ (Exists.intro _ (Exists.intro _ (Exists.intro _ (Exists.intro _ (And.intro ?e1 (And.intro ?e2 (And.intro ?hm (And.intro ?hi ?_))))))))); (case e1 => exact rfl); (case e2 => exact rfl); (case hm => walk_at "m"); (case hi => exact rfl)))
local macro_rules | `(tactic| walk_at "l") => `(tactic| first | assumption | exact lt_sz (by omega) | exact lt_sz (by simp only [List.length_map, List.length_append, List.length_cons, List.length_nil, List.length_take, List.length_drop, List.length_range]; omega))
local macro_rules | `(tactic| walk_at "s") => `(tactic| repeat (first | walk_at "s1" | walk_at "s2"))
local macro_rules | `(tactic| walk_at "sx") => `(tactic| with_reducible first
  | refine swx_of ?_ | refine swx_seq ?_ | refine swx_drop ?_ | refine swx_asg ?_ | refine swx_ret ?_ | refine ewx_fun ?_ | refine ewx_meth ?_ | refine ewx_make ?_ | refine ewx_sub ?_)
local macro_rules | `(tactic| walk_at "s") => `(tactic| repeat (first | walk_at "s1" | walk_at "s2" | walk_at "sx"))
local macro_rules | `(tactic| walk_at "g1") => `(tactic| with_reducible first
  | refine ew_tup2 ?_ | refine ew_tup3 ?_ | refine ew_tup4 ?_ | refine ew_fldI ?_ | refine sw_fldA ?_ | refine ew_dget1 ?_ | refine ew_dget2 ?_ | refine ow_isN ?_)
local macro_rules | `(tactic| walk_at "g2") => `(tactic| first
  | ((with_reducible refine' gw_tup ?e ?_); (case e => exact rfl))
  | ((with_reducible refine' oi_L ?e ?_); (case e => exact rfl))
  | ((refine' Exists.intro _ (And.intro ?cl (And.intro ?na (And.intro ?e ?_)))); (case cl => assumption); (case na => assumption); (case e => exact rfl))
  | ((refine' Exists.intro _ (Exists.intro _ (Exists.intro _ (Exists.intro _ (And.intro ?e (And.intro ?hm (And.intro ?cl (And.intro ?na (And.intro ?l ?_))))))))); (case e => exact rfl); (case hm => walk_at "m"); (case cl => assumption); (case na => assumption); (case l => exact Nat.le_of_ble_eq_true rfl)))
local macro_rules | `(tactic| walk_at "g") => `(tactic| repeat (first | walk_at "s1" | walk_at "s2" | walk_at "sx" | walk_at "g1" | walk_at "g2"))

section
variable {P : Program} {w : World} {K : PySem.W.Frag} {mg : Str → Option Value} {base : Heap} {a : Ads}
def F_reachedP : FS := fun ds m Q => ∃ T : Tab, ds = [tabD T] ∧ TabOk T ∧ T.length ≤ 1000 ∧ (∀ r ∈ T, r.length ≤ 1000) ∧ Q (.lst ((fin T).map natD)) m
theorem ok_reached (T : Txt K mg a) : Def P w K mg base 2 a.f_reached ["table"] (FSn 1 (F_reachedP)) := by
  have nd := sc_reached.nd
  refine defOk T.h_reached sc_reached (fun _ _ _ h => h.1) (fun cdv A outer s H E hr => by exact (pss_cons (ps_set (i := 1) nd rfl (Or.inl rfl) (pe_lst (pa_cons pe_int pa_nil)))
    (pss_cons (ps_set (i := 2) nd rfl (Or.inl rfl) (pe_disp (pps_cons pe_int pe_bl pps_nil) (by rfl) (by rfl) (fun z => by cases z) (by decide)))
    (pss_cons (ps_set (i := 3) nd rfl (Or.inl rfl) pe_int)
    (pss_cons (ps_while PassesOwn.never (pt_cmpR op_lt (pv 3) (pe_callB (kx_len K rfl) (by rfl) T.n_len (by decide +kernel) (pa_cons (pv 1) pa_nil)) (nomark _)) (pss_cons (ps_set (i := 4) nd rfl (Or.inl rfl) (pe_ix (kx_ix K rfl hr.units) (pv 0) (pe_ix (kx_ix K rfl hr.units) (pv 1) (pv 3) (fun _ _ => rfl)) (fun _ _ => rfl)))
    (pss_cons (ps_for PassesOwn.never rfl (kx_pi K rfl (pv 4)) (kx_tup K rfl (n := 2) (by rfl) (pgs_cons (pg_name (i := 5) nd rfl (Or.inl rfl)) (pgs_cons (pg_name (i := 6) nd rfl (Or.inl rfl)) pgs_nil))) (pss_one (ps_if (pt_cmpR (kx_notIn K rfl P w rfl rfl hr.units) (pv 5) (pv 2) (by with_unfolding_all rfl)) (pss_cons (ps_dput (h1u hr) (pv 2) (pv 5) pe_bl rfl)
    (pss_one (ps_expr (kx_bm K rfl PySem.F.plainAttrs_list PySem.F.slot_list_append PySem.F.type_list_append mt_append (pv 1) (pa_cons (pv 5) pa_nil))))) pss_nil)))
    (pss_one (ps_aug (i := 3) nd rfl (Or.inl rfl) pe_int ip_add)))))
    (pss_one (ps_ret (pv 1)))))))) (fun ds m Q h => ?_)
  replace h := h.2
  clear nd
  obtain ⟨T, rfl, ok, hT, hR, q⟩ := h
  refine sw_forget ?_
  walk_at "s"
  refine ew_lstM ?_
  walk_at "s"
  refine ⟨Nat.le_of_ble_eq_true rfl, fun z1 => ?_⟩
  walk_at "s"
  refine ew_disp1M fun z2 => ?_
  walk_at "s"
  refine ⟨.inl 0, m ++ [(z1, .lst [.int 0])], rfl, rfl, ?_⟩
  walk_at "s"
  refine sw_while (fun n δ' m' => ∃ (t : Nat) (x4 x5 x6 : Option D), δ' = [some (tabD T), some (.adr z1), some (.adr z2), some (.int (t : Nat)), x4, x5, x6] ∧ m' = m ++ [(z1, .lst ((ordT T t).map natD))] ++ [(z2, .dic (seenD (ordT T t)))] ∧ t ≤ (ordT T t).length ∧ n + t = T.length) T.length ⟨0, _, _, _, rfl, rfl, Nat.zero_le _, rfl⟩ ?_
  rintro n δ' m' ⟨t, x4, x5, x6, rfl, rfl, ht, hn⟩
  have hl := ordT_len ok t
  walk_at "s"
  rw [List.length_map]
  refine iteD (fun hc => ?_) (fun hc => ?_)
  · have hc : t < (ordT T t).length := by omega
    have hs : (ordT T t)[t]? = some (ordT T t)[t] := List.getElem?_eq_getElem hc
    have hsl : (ordT T t)[t] < T.length := ordT_lt ok t _ (List.getElem_mem hc)
    have hr : T[(ordT T t)[t]]? = some T[(ordT T t)[t]] := List.getElem?_eq_getElem hsl
    walk_at "s"
    refine oi_M (by walk_at "m") (at_map (f := natD) hs) ?_
    refine oi_L (at_map (f := rowD) hr) ?_
    have e1 : ordT T (t + 1) = ext (ordT T t) ((T[(ordT T t)[t]]).map (·.1)) := by
      rw [ordT, if_pos hc, List.getD_eq_getElem?_getD, hs]
      unfold goals
      rw [List.getD_eq_getElem?_getD, Option.getD_some, hr]
      rfl
    have hrl := hR _ (List.getElem_mem hsl)
    generalize hrow : T[(ordT T t)[t]] = row at hr e1 hrl ⊢
    walk_at "s"
    refine sw_forX (iw_any ?_)
    walk_at "s"
    refine ⟨_, .inl rfl, Step, row, stepD, rfl, fun i δ' m' => ∃ x5 x6 : Option D, δ' = [some (tabD T), some (.adr z1), some (.adr z2), some (.int (t : Nat)), some (rowD row), x5, x6] ∧ m' = m ++ [(z1, .lst ((ext (ordT T t) ((row.take i).map (·.1))).map natD))] ++ [(z2, .dic (seenD (ext (ordT T t) ((row.take i).map (·.1)))))], ?_, ?_, ?_⟩
    · exact ⟨_, _, rfl, rfl⟩
    · rintro i ⟨g, tt⟩ δ' m' hi ⟨x5, x6, rfl, rfl⟩
      have et : (row.take (i + 1)).map (·.1) = (row.take i).map (·.1) ++ [g] := by rw [List.take_add_one, hi, List.map_append]; rfl
      have hlen := nd_le T.length (ext (ordT T t) ((row.take i).map (·.1))) (ext_nd _ _ (ordT_nd T t)) fun x hx => by
        have : x ∈ ordT T (t + 1) := by
          rw [e1]
          rcases (ext_mem _ _).mp hx with a | a
          · exact (ext_mem _ _).mpr (.inl a)
          · obtain ⟨y, hy, rfl⟩ := List.mem_map.mp a
            exact (ext_mem _ _).mpr (.inr (List.mem_map_of_mem (List.mem_of_mem_take hy)))
        exact ordT_lt ok _ _ this
      refine gw_tup rfl ?_
      walk_at "s"
      refine sw_if ?_
      walk_at "s"
      refine nin_DM (x := .inl (g : Nat)) (by walk_at "m") ?_
      rw [seen_val]
      walk_at "s"
      refine iteN (fun hn => ?_) (fun hn => ?_)
      · walk_at "s"
        refine sw_dputA ?_
        walk_at "s"
        refine ⟨z2, _, .inl (g : Nat), _, rfl, rfl, by walk_at "m", ?_, ?_⟩
        · exact lt_sz (by simp only [List.length_map]; omega)
        rw [seen_put hn]
        walk_at "s"
        show ∃ x5 x6 : Option D, _ = _ ∧ _ = _
        rw [et, ext_snoc, if_neg hn]
        refine ⟨_, _, rfl, ?_⟩
        rw [List.map_append]
        rfl
      · walk_at "s"
        show ∃ x5 x6 : Option D, _ = _ ∧ _ = _
        rw [et, ext_snoc, if_pos hn]
        exact ⟨_, _, rfl, rfl⟩
    · rintro δ' m' ⟨x5, x6, rfl, rfl⟩
      rw [List.take_length, ← e1]
      have hp := ordT_pre1 T t
      have hc1 : t < (ordT T (t + 1)).length := Nat.lt_of_lt_of_le hc hp.length_le
      refine sw_aug rfl ?_
      walk_at "s"
      exact ⟨n - 1, by omega, t + 1, _, _, _, rfl, rfl, by omega, by omega⟩
  · have e := fin_of ok (t := t) (by omega)
    rw [e]
    refine sw_ret (ew_still (ew_perm (ew_var rfl ⟨_, perm_end, ?_⟩)))
    exact ⟨_, _, _, _, rfl, rfl, rfl, _, _, m, rfl, q⟩

end
end DL

set_option Elab.async false
set_option linter.all false
set_option maxRecDepth 100000
set_option maxHeartbeats 4000000
set_option autoImplicit false
namespace DL
open PySem PySem.Spec PyProof.Rows L2
local macro_rules | `(tactic| walk_at "m") => `(tactic| first
  | with_reducible exact MAt.last | with_reducible exact MUp.last
  | exact MAt.zero | exact MUp.zero | exact MAt.last | exact MUp.last
  | (apply MAt.cons; walk_at "m") | (apply MUp.cons; walk_at "m")
  | (apply MAt.app; walk_at "m") | (apply MUp.app; walk_at "m")
  | assumption)
local macro_rules | `(tactic| walk_at "s1") => `(tactic| with_reducible first
  | refine sw_seq ?_ | refine sw_next ?_ | refine sw_ret ?_ | refine sw_retN ?_ | refine sw_asg ?_ | refine sw_asgG ?_ | refine sw_drop ?_ | refine sw_break ?_ | refine sw_cont ?_ | refine sw_par ?_ | refine sw_par3 ?_
  | refine tw_test ?_ | refine tw_B ?_ | refine tw_and ?_ | refine tw_or ?_ | refine tw_not ?_ | refine tw_yes ?_
  | refine ew_op ?_ | refine ew_un ?_ | refine ew_int ?_ | refine ew_non ?_ | refine ew_bl ?_ | refine ew_str ?_ | refine ew_ty ?_ | refine ew_ref ?_ | refine ew_cb ?_ | refine ew_if ?_ | refine ew_andV ?_ | refine ew_orV ?_ | refine ew_notV ?_ | refine ew_chain ?_ | refine ew_sl ?_ | refine pw_no ?_ | refine pw_part ?_
  | refine ew_call0 ?_ | refine ew_kw0 ?_
  | refine aw_nil ?_ | refine aw_cons ?_ | refine ew_bm ?_ | refine ew_bm0 ?_ | refine gs_L ?_
  | refine gs_nil ?_ | refine gs_cons ?_ | refine gw_name ?_
  | refine ow_addI ?_ | refine ow_odd ?_ | refine ow_i0 ?_ | refine ow_b0 ?_ | refine oq_eqI ?_ | refine oq_neI ?_ | refine oq_eqS ?_ | refine oq_neS ?_ | refine ow_isN ?_ | refine ow_notN ?_ | refine uw_neg ?_ | refine cw_int ?_ | refine cw_intB ?_ | refine cw_abs ?_ | refine cw_mx2 ?_ | refine cw_mn2 ?_ | refine cw_lenL ?_ | refine cw_lenR ?_ | refine cw_listL ?_ | refine cw_listT ?_ | refine lw_L ?_ | refine ew_revL ?_)
local macro_rules | `(tactic| walk_at "s2") => `(tactic| first
  | ((with_reducible refine' ew_var ?hv ?_); (case hv => exact rfl))
  | ((with_reducible refine' oi_M ?hm ?hi ?_); (case hm => walk_at "m"); (case hi => exact rfl))
  | ((with_reducible refine' ow_ixT ?hi ?_); (case hi => exact rfl))
  | ((with_reducible refine' cl_M ?hm ?_); (case hm => walk_at "m"))
  | ((with_reducible refine' ci_M ?hm ?_); (case hm => walk_at "m"))
  | ((with_reducible refine' ma_app ?hm ?ll ?_); (case hm => walk_at "m"); (case ll => walk_at "l"))
  | ((with_reducible refine' And.intro (ty_A ?hm) ?_); (case hm => walk_at "m"))
  | (with_reducible refine' Exists.intro _ (And.intro ?he ?_); (case he => exact rfl))
  | (with_reducible refine' Exists.intro _ (Exists.intro _ (And.intro ?he ?_)); (case he => exact rfl))
  | (with_reducible refine' Exists.intro _ (Exists.intro _ (Exists.intro _ (And.intro ?he ?_))); (case he => exact rfl))
  | ((with_reducible refine' Exists.intro _ (Exists.intro _ (Exists.intro _ (Exists.intro _ (Exists.intro _ (And.intro ?e1 (And.intro ?e2 (And.intro ?hm (And.intro ?hi ?_))))))))); (case e1 => exact rfl); (case e2 => exact rfl); (case hm => walk_at "m"); (case hi => exact rfl)))
local macro_rules | `(tactic| walk_at "l") => `(tactic| first | assumption | exact lt_sz (by omega) | exact lt_sz (by simp only [List.length_map, List.length_append, List.length_cons, List.length_nil, List.length_take, List.length_drop, List.length_range]; omega))
local macro_rules | `(tactic| walk_at "s") => `(tactic| repeat (first | walk_at "s1" | walk_at "s2"))
local macro_rules | `(tactic| walk_at "sx") => `(tactic| with_reducible first
  | refine swx_of ?_ | refine swx_seq ?_ | refine swx_drop ?_ | refine swx_asg ?_ | refine swx_ret ?_ | refine ewx_fun ?_ | refine ewx_meth ?_ | refine ewx_make ?_ | refine ewx_sub ?_)
local macro_rules | `(tactic| walk_at "s") => `(tactic| repeat (first | walk_at "s1" | walk_at "s2" | walk_at "sx"))
local macro_rules | `(tactic| walk_at "g1") => `(tactic| with_reducible first
  | refine ew_tup2 ?_ | refine ew_tup3 ?_ | refine ew_tup4 ?_ | refine ew_fldI ?_ | refine sw_fldA ?_ | refine ew_dget1 ?_ | refine ew_dget2 ?_ | refine ow_isN ?_)
local macro_rules | `(tactic| walk_at "g2") => `(tactic| first
  | ((with_reducible refine' gw_tup ?e ?_); (case e => exact rfl))
  | ((with_reducible refine' oi_L ?e ?_); (case e => exact rfl))
  | ((refine' Exists.intro _ (And.intro ?cl (And.intro ?na (And.intro ?e ?_)))); (case cl => assumption); (case na => assumption); (case e => exact rfl))
  | ((refine' Exists.intro _ (Exists.intro _ (Exists.intro _ (Exists.intro _ (And.intro ?e (And.intro ?hm (And.intro ?cl (And.intro ?na (And.intro ?l ?_))))))))); (case e => exact rfl); (case hm => walk_at "m"); (case cl => assumption); (case na => assumption); (case l => exact Nat.le_of_ble_eq_true rfl)))
local macro_rules | `(tactic| walk_at "g") => `(tactic| repeat (first | walk_at "s1" | walk_at "s2" | walk_at "sx" | walk_at "g1" | walk_at "g2"))

section
variable {P : Program} {w : World} {K : PySem.W.Frag} {mg : Str → Option Value} {base : Heap} {a : Ads}
abbrev srvD (C : Addr) (ws : List Str) (T : Tab) : D := .ins C [("_names", .lst (ws.map .str)), ("_places", .dic (ws.zipIdx.map fun p => (Sum.inr p.1, natD p.2))), ("_rows", tabD T)]
structure SvcIn (ws : List Str) (T : Tab) : Prop where
  ok : TabOk T
  wid : ∀ r ∈ T, r.length = ws.length
  nm : ∀ x ∈ ws, nameB x = true
  nd : ws.Nodup
  le : T.length ≤ 1000
  few : ws.length ≤ 1000
def F_init (C : Addr) : FS := fun ds m Q => ∃ (m0 : Mem) (p : Addr) (ws : List Str) (T : Tab), ds = [.adr p, .lst (ws.map .str), tabD T] ∧ m = m0 ++ [(p, .ins C [])] ∧ SvcIn ws T ∧
  ∀ fs, srvD C ws (normT T) = .ins C fs → Q .non (m0 ++ [(p, .ins C fs)])
theorem ok_Service___init__ (T : Txt K mg a) : Def P w K mg base 6 a.f_Service___init__ ["self", "names", "table"] (FSn 3 (F_init a.c_Service)) := by
  have nd := sc_Service___init__.nd
  have C_reached := ok_reached (P := P) (w := w) (base := base) T
  have C_check_table := ok_check_table (P := P) (w := w) (base := base) T
  have C_check_names := ok_check_names (P := P) (w := w) (base := base) T
  refine defOk T.h_Service___init__ sc_Service___init__ (fun _ _ _ h => h.1) (fun cdv A outer s H E hr => by exact (pss_cons (ps_expr (kx_def K rfl C_check_names (hr.mono (by decide)) rfl T.g_check_names T.k_check_names (pa_cons (pv 1) pa_nil)))
    (pss_cons (ps_expr (kx_def K rfl C_check_table (hr.mono (by decide)) rfl T.g_check_table T.k_check_table (pa_cons (pv 2) (pa_cons (pe_callB (kx_len K rfl) (by rfl) T.n_len (by decide +kernel) (pa_cons (pv 1) pa_nil)) pa_nil))))
    (pss_cons (ps_set (i := 3) nd rfl (Or.inl rfl) (kx_def K rfl C_reached (hr.mono (by decide)) rfl T.g_reached T.k_reached (pa_cons (pv 2) pa_nil)))
    (pss_cons (ps_set (i := 4) nd rfl (Or.inr rfl) (pe_dc (own := [("number", 5), ("state", 6)]) (g := (gTup K 2 (gCons (gName 5) (gCons (gName 6) gNil)))) (tt := tYes) rfl nd (kx_enum K rfl (by rfl) T.n_enumerate (pa_cons (pv 3) pa_nil)) (blkOk_by (own := [("number", 5), ("state", 6)]) (N := N_Service___init__) (sc := defScope s_Service___init__) (by decide +kernel)) (fun _ _ _ _ _ => (kx_tup K rfl (n := 2) (by rfl) (pgs_cons (pg_name (i := 5) nd rfl (by first | exact Or.inl rfl | exact Or.inr rfl)) (pgs_cons (pg_name (i := 6) nd rfl (by first | exact Or.inl rfl | exact Or.inr rfl)) pgs_nil)))) (fun _ _ _ _ _ => pts_nil) (fun _ _ _ _ _ => (pv 6)) (fun _ _ _ _ _ => (pv 5))))
    (pss_cons (kx_set K rfl (pv 0) (pe_callTy (kx_list K rfl) (by rfl) T.n_list (by decide +kernel) (pa_cons (pv 1) pa_nil)))
    (pss_cons (kx_set K rfl (pv 0) (pe_dc (own := [("place", 7), ("name", 8)]) (g := (gTup K 2 (gCons (gName 7) (gCons (gName 8) gNil)))) (tt := tYes) rfl nd (kx_enum K rfl (by rfl) T.n_enumerate (pa_cons (pv 1) pa_nil)) (blkOk_by (own := [("place", 7), ("name", 8)]) (N := N_Service___init__) (sc := defScope s_Service___init__) (by decide +kernel)) (fun _ _ _ _ _ => (kx_tup K rfl (n := 2) (by rfl) (pgs_cons (pg_name (i := 7) nd rfl (by first | exact Or.inl rfl | exact Or.inr rfl)) (pgs_cons (pg_name (i := 8) nd rfl (by first | exact Or.inl rfl | exact Or.inr rfl)) pgs_nil)))) (fun _ _ _ _ _ => pts_nil) (fun _ _ _ _ _ => (pv 8)) (fun _ _ _ _ _ => (pv 7))))
    (pss_one (kx_set K rfl (pv 0) (pe_lc (own := [("state", 6)]) (g := (gName 6)) (tt := tYes) rfl nd (kx_pi K rfl (pv 3)) (blkOk_by (own := [("state", 6)]) (N := N_Service___init__) (sc := defScope s_Service___init__) (by decide +kernel)) (fun _ _ _ _ _ => (pg_name (i := 6) nd rfl (by first | exact Or.inl rfl | exact Or.inr rfl))) (fun _ _ _ _ _ => pts_nil) (fun _ _ _ _ _ => (pe_lc (own := [("onward", 9), ("answer", 10)]) (g := (gTup K 2 (gCons (gName 9) (gCons (gName 10) gNil)))) (tt := tYes) rfl nd (kx_pi K rfl (pe_ix (kx_ix K rfl hr.units) (pv 2) (pv 6) (fun _ _ => rfl))) (by exact blkIn (own := [("onward", 9), ("answer", 10)]) (N := N_Service___init__) (sc0 := defScope s_Service___init__) (by decide +kernel)) (fun _ _ _ _ _ => (kx_tup K rfl (n := 2) (by rfl) (pgs_cons (pg_name (i := 9) nd rfl (by first | exact Or.inl rfl | exact Or.inr rfl)) (pgs_cons (pg_name (i := 10) nd rfl (by first | exact Or.inl rfl | exact Or.inr rfl)) pgs_nil)))) (fun _ _ _ _ _ => pts_nil) (fun _ _ _ _ _ => (pe_tup (pa_cons (pe_ix (kx_ix K rfl hr.units) (pv 4) (pv 9) (fun _ _ => rfl)) (pa_cons (pv 10) pa_nil)))))))))))))))) (fun ds m Q h => ?_)
  replace h := h.2
  clear nd
  have cl := T.cl_Service
  have na1 := T.na_Service__names
  have na2 := T.na_Service__places
  have na3 := T.na_Service__rows
  obtain ⟨m0, p, ws, T, rfl, rfl, sv, q⟩ := h
  walk_at "s"
  refine ⟨rfl, ws, rfl, sv.nm, sv.nd, sv.few, ?_⟩
  walk_at "s"
  rw [List.length_map]
  have hR : ∀ r ∈ T, r.length ≤ 1000 := fun r hr => by rw [sv.wid r hr]; exact sv.few
  refine ⟨rfl, T, ws.length, rfl, sv.wid, sv.ok.lt, sv.le, sv.few, ?_⟩
  walk_at "s"
  refine ⟨rfl, T, rfl, sv.ok, sv.le, hR, ?_⟩
  have hfl := fin_len sv.ok
  have hle := sv.le
  have hfw := sv.few
  have ndk : ((fin T).zipIdx.map fun p => (Sum.inl ((p.1 : Nat) : Int) : Key)).Nodup := by
    have e : ((fin T).zipIdx.map fun p => (Sum.inl ((p.1 : Nat) : Int) : Key)) = (fin T).map fun x => Sum.inl ((x : Nat) : Int) := by
      conv => rhs; rw [← List.zipIdx_map_fst 0 (fin T), List.map_map]
      rfl
    rw [e]
    exact nd_map (fun a b hab => by injection hab with hab; omega) (fin_nd T)
  have ndn : (ws.zipIdx.map fun p => (Sum.inr p.1 : Key)).Nodup := by
    have e : (ws.zipIdx.map fun p => (Sum.inr p.1 : Key)) = ws.map fun x => Sum.inr x := by
      conv => rhs; rw [← List.zipIdx_map_fst 0 ws, List.map_map]
      rfl
    rw [e]
    exact nd_map (fun a b hab => by injection hab) sv.nd
  have look : ∀ g ∈ fin T, valD ((fin T).zipIdx.map fun p => (Sum.inl ((p.1 : Nat) : Int), natD p.2)) (.inl ((g : Nat) : Int)) = some (natD ((fin T).idxOf g)) := by
    intro g hg
    have hm : (g, (fin T).idxOf g) ∈ (fin T).zipIdx := by
      have hi := List.idxOf_lt_length_of_mem hg
      rw [List.mem_zipIdx_iff_getElem?, List.getElem?_eq_getElem hi, List.getElem_idxOf hi]
    exact find_key (kf := fun p : Nat × Nat => Sum.inl ((p.1 : Nat) : Int)) (vf := fun p => natD p.2) ndk hm
  walk_at "s"
  refine ew_dcF (α := Nat × Nat) (tame_tup (tames_cons (by decide) (tames_cons (by decide) tames_nil))) (iw_enum ?_)
  walk_at "s"
  rw [enumD_map]
  refine ⟨(fin T).zipIdx, _, fun p => .inl (p.1 : Nat), fun p => natD p.2, rfl, le_sz (by rw [List.length_zipIdx]; omega), ndk, ?_, ?_⟩
  · rintro ⟨x, i⟩ acc z hx
    refine gw_tup rfl ?_
    walk_at "s"
    refine ⟨rfl, ?_⟩
    walk_at "s"
    exact ⟨rfl, rfl, rfl⟩
  · walk_at "s"
    refine sw_fldA ?_
    walk_at "s"
    refine ⟨p, _, _, _, rfl, by walk_at "m", cl, na1, by decide, ?_⟩
    walk_at "s"
    refine sw_fldA ?_
    refine ew_dcF (α := Str × Nat) (tame_tup (tames_cons (by decide) (tames_cons (by decide) tames_nil))) (iw_enum ?_)
    walk_at "s"
    rw [enumD_map]
    refine ⟨ws.zipIdx, _, fun p => .inr p.1, fun p => natD p.2, rfl, le_sz (by rw [List.length_zipIdx]; omega), ndn, ?_, ?_⟩
    · rintro ⟨x, i⟩ acc z hx
      refine gw_tup rfl ?_
      walk_at "s"
      refine ⟨rfl, ?_⟩
      walk_at "s"
      exact ⟨rfl, rfl, rfl⟩
    · walk_at "s"
      refine ⟨p, _, _, _, rfl, by walk_at "m", cl, na2, Nat.le_of_ble_eq_true rfl, ?_⟩
      walk_at "s"
      refine sw_fldA ?_
      refine ew_lcF (tame_name (by decide)) (iw_any ?_)
      walk_at "s"
      refine ⟨_, .inl rfl, Nat, fin T, natD, fun s => rowD ((T.getD s []).map fun p => ((fin T).idxOf p.1, p.2)), rfl, le_sz (by omega), ?_, ?_⟩
      · intro s acc z hs
        have hsl : s < T.length := fin_lt sv.ok hs
        have hr : T[s]? = some T[s] := List.getElem?_eq_getElem hsl
        have hrl := hR _ (List.getElem_mem hsl)
        walk_at "s"
        refine ⟨rfl, ?_⟩
        walk_at "s"
        refine ew_lcF (tame_tup (tames_cons (by decide) (tames_cons (by decide) tames_nil))) (iw_any ?_)
        walk_at "s"
        refine oi_L (at_map (f := rowD) hr) ?_
        refine ⟨_, .inl rfl, Step, T[s], stepD, fun p => stepD ((fin T).idxOf p.1, p.2), rfl, le_sz (by omega), ?_, ?_⟩
        · rintro ⟨g, t⟩ acc2 z3 hg
          have hgf : g ∈ fin T := fin_closed sv.ok hs (by unfold goals; rw [List.getD_eq_getElem?_getD, hr]; exact List.mem_map_of_mem hg)
          refine gw_tup rfl ?_
          walk_at "s"
          refine ⟨rfl, ?_⟩
          walk_at "s"
          refine ew_tup ?_
          walk_at "s"
          refine ow_ixDi (look g hgf) ?_
          walk_at "s"
          exact ⟨Nat.le_of_ble_eq_true rfl, rfl, rfl⟩
        · refine ⟨?_, rfl⟩
          show D.lst _ = D.lst _
          rw [List.getD_eq_getElem?_getD, hr, Option.getD_some, List.map_map]
          rfl
      · walk_at "s"
        refine ⟨p, _, _, _, rfl, by walk_at "m", cl, na3, Nat.le_of_ble_eq_true rfl, ?_⟩
        refine q _ ?_
        have e : D.lst ((fin T).map fun s => rowD ((T.getD s []).map fun p => ((fin T).idxOf p.1, p.2))) = tabD (normT T) := by
          show D.lst _ = D.lst _
          unfold normT
          rw [List.map_map]
          rfl
        unfold srvD
        rw [← e]
        rfl

end
end DL

set_option Elab.async false
set_option linter.all false
set_option maxRecDepth 100000
set_option maxHeartbeats 4000000
set_option autoImplicit false
namespace DL
open PySem PySem.Spec PyProof.Rows L2
local macro_rules | `(tactic| walk_at "m") => `(tactic| first
  | with_reducible exact MAt.last | with_reducible exact MUp.last
  | exact MAt.zero | exact MUp.zero | exact MAt.last | exact MUp.last
  | (apply MAt.cons; walk_at "m") | (apply MUp.cons; walk_at "m")
  | (apply MAt.app; walk_at "m") | (apply MUp.app; walk_at "m")
  | assumption)
local macro_rules | `(tactic| walk_at "s1") => `(tactic| with_reducible first
  | refine sw_seq ?_ | refine sw_next ?_ | refine sw_ret ?_ | refine sw_retN ?_ | refine sw_asg ?_ | refine sw_asgG ?_ | refine sw_drop ?_ | refine sw_break ?_ | refine sw_cont ?_ | refine sw_par ?_ | refine sw_par3 ?_
  | refine tw_test ?_ | refine tw_B ?_ | refine tw_and ?_ | refine tw_or ?_ | refine tw_not ?_ | refine tw_yes ?_
  | refine ew_op ?_ | refine ew_un ?_ | refine ew_int ?_ | refine ew_non ?_ | refine ew_bl ?_ | refine ew_str ?_ | refine ew_ty ?_ | refine ew_ref ?_ | refine ew_cb ?_ | refine ew_if ?_ | refine ew_andV ?_ | refine ew_orV ?_ | refine ew_notV ?_ | refine ew_chain ?_ | refine ew_sl ?_ | refine pw_no ?_ | refine pw_part ?_
  | refine ew_call0 ?_ | refine ew_kw0 ?_
  | refine aw_nil ?_ | refine aw_cons ?_ | refine ew_bm ?_ | refine ew_bm0 ?_ | refine gs_L ?_
  | refine gs_nil ?_ | refine gs_cons ?_ | refine gw_name ?_
  | refine ow_addI ?_ | refine ow_odd ?_ | refine ow_i0 ?_ | refine ow_b0 ?_ | refine oq_eqI ?_ | refine oq_neI ?_ | refine oq_eqS ?_ | refine oq_neS ?_ | refine ow_isN ?_ | refine ow_notN ?_ | refine uw_neg ?_ | refine cw_int ?_ | refine cw_intB ?_ | refine cw_abs ?_ | refine cw_mx2 ?_ | refine cw_mn2 ?_ | refine cw_lenL ?_ | refine cw_lenR ?_ | refine cw_listL ?_ | refine cw_listT ?_ | refine lw_L ?_ | refine ew_revL ?_)
local macro_rules | `(tactic| walk_at "s2") => `(tactic| first
  | ((with_reducible refine' ew_var ?hv ?_); (case hv => exact rfl))
  | ((with_reducible refine' oi_M ?hm ?hi ?_); (case hm => walk_at "m"); (case hi => exact rfl))
  | ((with_reducible refine' ow_ixT ?hi ?_); (case hi => exact rfl))
  | ((with_reducible refine' cl_M ?hm ?_); (case hm => walk_at "m"))
  | ((with_reducible refine' ci_M ?hm ?_); (case hm => walk_at "m"))
  | ((with_reducible refine' ma_app ?hm ?ll ?_); (case hm => walk_at "m"); (case ll => walk_at "l"))
  | ((with_reducible refine' And.intro (ty_A ?hm) ?_); (case hm => walk_at "m"))
  | (with_reducible refine' Exists.intro _ (And.intro ?he ?_); (case he => exact rfl))
  | (with_reducible refine' Exists.intro _ (Exists.intro _ (And.intro ?he ?_)); (case he => exact rfl))
  | (with_reducible refine' Exists.intro _ (Exists.intro _ (Exists.intro _ (And.intro ?he ?_))); (case he => exact rfl))
  | ((with_reducible refine' Exists.intro _ (Exists.intro _ (Exists.intro _ (Exists.intro _ (Exists.intro _ (And.intro ?e1 (And.intro ?e2 (And.intro ?hm (And.intro ?hi ?_))))))))); (case e1 => exact rfl); (case e2 => exact rfl); (case hm => walk_at "m"); (case hi => exact rfl)))
local macro_rules | `(tactic| walk_at "l") => `(tactic| first | assumption | exact lt_sz (by omega) | exact lt_sz (by simp only [List.length_map, List.length_append, List.length_cons, List.length_nil, List.length_take, List.length_drop, List.length_range]; omega))
local macro_rules | `(tactic| walk_at "s") => `(tactic| repeat (first | walk_at "s1" | walk_at "s2"))
local macro_rules | `(tactic| walk_at "sx") => `(tactic| with_reducible first
  | refine swx_of ?_ | refine swx_seq ?_ | refine swx_drop ?_ | refine swx_asg ?_ | refine swx_ret ?_ | refine ewx_fun ?_ | refine ewx_meth ?_ | refine ewx_make ?_ | refine ewx_sub ?_)
local macro_rules | `(tactic| walk_at "s") => `(tactic| repeat (first | walk_at "s1" | walk_at "s2" | walk_at "sx"))
local macro_rules | `(tactic| walk_at "g1") => `(tactic| with_reducible first
  | refine ew_tup2 ?_ | refine ew_tup3 ?_ | refine ew_tup4 ?_ | refine ew_fldI ?_ | refine sw_fldA ?_ | refine ew_dget1 ?_ | refine ew_dget2 ?_ | refine ow_isN ?_)
local macro_rules | `(tactic| walk_at "g2") => `(tactic| first
  | ((with_reducible refine' gw_tup ?e ?_); (case e => exact rfl))
  | ((with_reducible refine' oi_L ?e ?_); (case e => exact rfl))
  | ((refine' Exists.intro _ (And.intro ?cl (And.intro ?na (And.intro ?e ?_)))); (case cl => assumption); (case na => assumption); (case e => exact rfl))
  | ((refine' Exists.intro _ (Exists.intro _ (Exists.intro _ (Exists.intro _ (And.intro ?e (And.intro ?hm (And.intro ?cl (And.intro ?na (And.intro ?l ?_))))))))); (case e => exact rfl); (case hm => walk_at "m"); (case cl => assumption); (case na => assumption); (case l => exact Nat.le_of_ble_eq_true rfl)))
local macro_rules | `(tactic| walk_at "g") => `(tactic| repeat (first | walk_at "s1" | walk_at "s2" | walk_at "sx" | walk_at "g1" | walk_at "g2"))

section
variable {P : Program} {w : World} {K : PySem.W.Frag} {mg : Str → Option Value} {base : Heap} {a : Ads}
/-- a service as constructed: unlike names, a table of the states that come about -/
structure Srv (ws : List Str) (T : Tab) : Prop extends Svc ws T where
  nd : ws.Nodup
end
end DL

set_option Elab.async false
set_option linter.all false
set_option maxRecDepth 100000
set_option maxHeartbeats 4000000
set_option autoImplicit false
namespace DL
open PySem PySem.Spec PyProof.Rows L2
local macro_rules | `(tactic| walk_at "m") => `(tactic| first
  | with_reducible exact MAt.last | with_reducible exact MUp.last
  | exact MAt.zero | exact MUp.zero | exact MAt.last | exact MUp.last
  | (apply MAt.cons; walk_at "m") | (apply MUp.cons; walk_at "m")
  | (apply MAt.app; walk_at "m") | (apply MUp.app; walk_at "m")
  | assumption)
local macro_rules | `(tactic| walk_at "s1") => `(tactic| with_reducible first
  | refine sw_seq ?_ | refine sw_next ?_ | refine sw_ret ?_ | refine sw_retN ?_ | refine sw_asg ?_ | refine sw_asgG ?_ | refine sw_drop ?_ | refine sw_break ?_ | refine sw_cont ?_ | refine sw_par ?_ | refine sw_par3 ?_
  | refine tw_test ?_ | refine tw_B ?_ | refine tw_and ?_ | refine tw_or ?_ | refine tw_not ?_ | refine tw_yes ?_
  | refine ew_op ?_ | refine ew_un ?_ | refine ew_int ?_ | refine ew_non ?_ | refine ew_bl ?_ | refine ew_str ?_ | refine ew_ty ?_ | refine ew_ref ?_ | refine ew_cb ?_ | refine ew_if ?_ | refine ew_andV ?_ | refine ew_orV ?_ | refine ew_notV ?_ | refine ew_chain ?_ | refine ew_sl ?_ | refine pw_no ?_ | refine pw_part ?_
  | refine ew_call0 ?_ | refine ew_kw0 ?_
  | refine aw_nil ?_ | refine aw_cons ?_ | refine ew_bm ?_ | refine ew_bm0 ?_ | refine gs_L ?_
  | refine gs_nil ?_ | refine gs_cons ?_ | refine gw_name ?_
  | refine ow_addI ?_ | refine ow_odd ?_ | refine ow_i0 ?_ | refine ow_b0 ?_ | refine oq_eqI ?_ | refine oq_neI ?_ | refine oq_eqS ?_ | refine oq_neS ?_ | refine ow_isN ?_ | refine ow_notN ?_ | refine uw_neg ?_ | refine cw_int ?_ | refine cw_intB ?_ | refine cw_abs ?_ | refine cw_mx2 ?_ | refine cw_mn2 ?_ | refine cw_lenL ?_ | refine cw_lenR ?_ | refine cw_listL ?_ | refine cw_listT ?_ | refine lw_L ?_ | refine ew_revL ?_)
local macro_rules | `(tactic| walk_at "s2") => `(tactic| first
  | ((with_reducible refine' ew_var ?hv ?_); (case hv => exact rfl))
  | ((with_reducible refine' oi_M ?hm ?hi ?_); (case hm => walk_at "m"); (case hi => exact rfl))
  | ((with_reducible refine' ow_ixT ?hi ?_); (case hi => exact rfl))
  | ((with_reducible refine' cl_M ?hm ?_); (case hm => walk_at "m"))
  | ((with_reducible refine' ci_M ?hm ?_); (case hm => walk_at "m"))
  | ((with_reducible refine' ma_app ?hm ?ll ?_); (case hm => walk_at "m"); (case ll => walk_at "l"))
  | ((with_reducible refine' And.intro (ty_A ?hm) ?_); (case hm => walk_at "m"))
  | (with_reducible refine' Exists.intro _ (And.intro ?he ?_); (case he => exact rfl))
  | (with_reducible refine' Exists.intro _ (Exists.intro _ (And.intro ?he ?_)); (case he => exact rfl))
  | (with_reducible refine' Exists.intro _ (Exists.intro _ (Exists.intro _ (And.intro ?he ?_))); (case he => exact rfl))
  | ((with_reducible refine' Exists.intro _ (Exists.intro _ (Exists.intro _ (Exists.intro _ (Exists.intro _ (And.intro ?e1 (And.intro ?e2 (And.intro ?hm (And.intro ?hi ?_))))))))); (case e1 => exact rfl); (case e2 => exact rfl); (case hm => walk_at "m"); (case hi => exact rfl)))
local macro_rules | `(tactic| walk_at "l") => `(tactic| first | assumption | exact lt_sz (by omega) | exact lt_sz (by simp only [List.length_map, List.length_append, List.length_cons, List.length_nil, List.length_take, List.length_drop, List.length_range]; omega))
local macro_rules | `(tactic| walk_at "s") => `(tactic| repeat (first | walk_at "s1" | walk_at "s2"))
local macro_rules | `(tactic| walk_at "sx") => `(tactic| with_reducible first
  | refine swx_of ?_ | refine swx_seq ?_ | refine swx_drop ?_ | refine swx_asg ?_ | refine swx_ret ?_ | refine ewx_fun ?_ | refine ewx_meth ?_ | refine ewx_make ?_ | refine ewx_sub ?_)
local macro_rules | `(tactic| walk_at "s") => `(tactic| repeat (first | walk_at "s1" | walk_at "s2" | walk_at "sx"))
local macro_rules | `(tactic| walk_at "g1") => `(tactic| with_reducible first
  | refine ew_tup2 ?_ | refine ew_tup3 ?_ | refine ew_tup4 ?_ | refine ew_fldI ?_ | refine sw_fldA ?_ | refine ew_dget1 ?_ | refine ew_dget2 ?_ | refine ow_isN ?_)
local macro_rules | `(tactic| walk_at "g2") => `(tactic| first
  | ((with_reducible refine' gw_tup ?e ?_); (case e => exact rfl))
  | ((with_reducible refine' oi_L ?e ?_); (case e => exact rfl))
  | ((refine' Exists.intro _ (And.intro ?cl (And.intro ?na (And.intro ?e ?_)))); (case cl => assumption); (case na => assumption); (case e => exact rfl))
  | ((refine' Exists.intro _ (Exists.intro _ (Exists.intro _ (Exists.intro _ (And.intro ?e (And.intro ?hm (And.intro ?cl (And.intro ?na (And.intro ?l ?_))))))))); (case e => exact rfl); (case hm => walk_at "m"); (case cl => assumption); (case na => assumption); (case l => exact Nat.le_of_ble_eq_true rfl)))
local macro_rules | `(tactic| walk_at "g") => `(tactic| repeat (first | walk_at "s1" | walk_at "s2" | walk_at "sx" | walk_at "g1" | walk_at "g2"))

section
variable {P : Program} {w : World} {K : PySem.W.Frag} {mg : Str → Option Value} {base : Heap} {a : Ads}
theorem strs_nb {ws : List Str} (h : ∀ x ∈ ws, PyData.strOk x = true) : (D.lst (ws.map .str)).nb 1 = true := by
  show (ws.map D.str).all (D.nb 0) = true
  rw [List.all_eq_true]
  intro x hx
  obtain ⟨p, hp, rfl⟩ := List.mem_map.mp hx
  exact h p hp
theorem strD_inj {ws ws' : List Str} (h : ws.map D.str = ws'.map D.str) : ws = ws' := by
  induction ws generalizing ws' with
  | nil => cases ws' with
    | nil => rfl
    | cons => cases h
  | cons a l ih => cases ws' with
    | nil => cases h
    | cons b l' =>
      rw [List.map_cons, List.map_cons] at h
      injection h with h1 h2
      injection h1 with h1
      rw [h1, ih h2]
theorem mapD_inj {α : Type} {f : α → D} (hf : ∀ x y, f x = f y → x = y) : ∀ {xs ys : List α}, xs.map f = ys.map f → xs = ys
  | [], [], _ => rfl
  | [], _ :: _, h => by cases h
  | _ :: _, [], h => by cases h
  | a :: l, b :: l', h => by
    rw [List.map_cons, List.map_cons] at h
    injection h with h1 h2
    rw [hf _ _ h1, mapD_inj hf h2]
/-- what a list of pairs tells of a name -/
def lk {α : Type} (l : List (Str × α)) (n : Str) : Option α := (l.find? fun p => decide (p.1 = n)).map (·.2)
def get {α : Type} (l : List (Str × α)) (n : Str) (d : α) : α := (lk l n).getD d
theorem lk_mem {α : Type} {l : List (Str × α)} {n : Str} (h : n ∈ l.map (·.1)) : ∃ v, lk l n = some v ∧ (n, v) ∈ l := by
  obtain ⟨p, hp, rfl⟩ := List.mem_map.mp h
  unfold lk
  cases c : l.find? fun q => decide (q.1 = p.1) with
  | none =>
    have := List.find?_eq_none.mp c p hp
    simp at this
  | some q =>
    have h1 := List.find?_some c
    have h1 : q.1 = p.1 := by simpa using h1
    exact ⟨q.2, rfl, by rw [← h1]; exact List.mem_of_find?_eq_some c⟩
/-- the words of a rule, in the sequence in which they are looked at -/
def lineF (e : List Str) (k : List (Str × Str)) (r : List (Str × Int)) : List Str := e ++ srtS (k.map (·.1)) ++ (srtS (k.map (·.1))).map (fun n => get k n "") ++ srtS (r.map (·.1))
/-- parts of a rule, of any words -/
structure Prts (e : List Str) (k : List (Str × Str)) (r : List (Str × Int)) : Prop where
  el : e.length ≤ 50
  kl : k.length ≤ 50
  rl : r.length ≤ 50
  ew : ∀ x ∈ e, x.length ≤ 1000
  kw : ∀ p ∈ k, p.1.length ≤ 1000 ∧ p.2.length ≤ 1000
  rw : ∀ p ∈ r, p.1.length ≤ 1000
theorem srt_mem {ws : List Str} {n : Str} : n ∈ srtS ws ↔ n ∈ ws := (srtS_perm ws).mem_iff
theorem srt_len (ws : List Str) : (srtS ws).length = ws.length := (srtS_perm ws).length_eq
theorem Prts.line {e k r} (o : Prts e k r) : (∀ w ∈ lineF e k r, w.length ≤ 1000) ∧ (lineF e k r).length ≤ 200 := by
  refine ⟨fun w hw => ?_, ?_⟩
  · unfold lineF at hw
    rcases List.mem_append.mp hw with hw | hw
    · rcases List.mem_append.mp hw with hw | hw
      · rcases List.mem_append.mp hw with hw | hw
        · exact o.ew w hw
        · obtain ⟨p, hp, rfl⟩ := List.mem_map.mp (srt_mem.mp hw)
          exact (o.kw p hp).1
      · obtain ⟨n, hn, rfl⟩ := List.mem_map.mp hw
        obtain ⟨v, e1, hv⟩ := lk_mem (srt_mem.mp hn)
        unfold get
        rw [e1]
        exact (o.kw _ hv).2
    · obtain ⟨p, hp, rfl⟩ := List.mem_map.mp (srt_mem.mp hw)
      exact o.rw p hp
  · have h1 := o.el
    have h2 := o.kl
    have h3 := o.rl
    simp only [lineF, List.length_append, List.length_map, srt_len]
    omega
end
end DL

set_option Elab.async false
set_option linter.all false
set_option maxRecDepth 100000
set_option maxHeartbeats 4000000
set_option autoImplicit false
namespace DL
open PySem PySem.Spec PyProof.Rows L2
local macro_rules | `(tactic| walk_at "m") => `(tactic| first
  | with_reducible exact MAt.last | with_reducible exact MUp.last
  | exact MAt.zero | exact MUp.zero | exact MAt.last | exact MUp.last
  | (apply MAt.cons; walk_at "m") | (apply MUp.cons; walk_at "m")
  | (apply MAt.app; walk_at "m") | (apply MUp.app; walk_at "m")
  | assumption)
local macro_rules | `(tactic| walk_at "s1") => `(tactic| with_reducible first
  | refine sw_seq ?_ | refine sw_next ?_ | refine sw_ret ?_ | refine sw_retN ?_ | refine sw_asg ?_ | refine sw_asgG ?_ | refine sw_drop ?_ | refine sw_break ?_ | refine sw_cont ?_ | refine sw_par ?_ | refine sw_par3 ?_
  | refine tw_test ?_ | refine tw_B ?_ | refine tw_and ?_ | refine tw_or ?_ | refine tw_not ?_ | refine tw_yes ?_
  | refine ew_op ?_ | refine ew_un ?_ | refine ew_int ?_ | refine ew_non ?_ | refine ew_bl ?_ | refine ew_str ?_ | refine ew_ty ?_ | refine ew_ref ?_ | refine ew_cb ?_ | refine ew_if ?_ | refine ew_andV ?_ | refine ew_orV ?_ | refine ew_notV ?_ | refine ew_chain ?_ | refine ew_sl ?_ | refine pw_no ?_ | refine pw_part ?_
  | refine ew_call0 ?_ | refine ew_kw0 ?_
  | refine aw_nil ?_ | refine aw_cons ?_ | refine ew_bm ?_ | refine ew_bm0 ?_ | refine gs_L ?_
  | refine gs_nil ?_ | refine gs_cons ?_ | refine gw_name ?_
  | refine ow_addI ?_ | refine ow_odd ?_ | refine ow_i0 ?_ | refine ow_b0 ?_ | refine oq_eqI ?_ | refine oq_neI ?_ | refine oq_eqS ?_ | refine oq_neS ?_ | refine ow_isN ?_ | refine ow_notN ?_ | refine uw_neg ?_ | refine cw_int ?_ | refine cw_intB ?_ | refine cw_abs ?_ | refine cw_mx2 ?_ | refine cw_mn2 ?_ | refine cw_lenL ?_ | refine cw_lenR ?_ | refine cw_listL ?_ | refine cw_listT ?_ | refine lw_L ?_ | refine ew_revL ?_)
local macro_rules | `(tactic| walk_at "s2") => `(tactic| first
  | ((with_reducible refine' ew_var ?hv ?_); (case hv => exact rfl))
  | ((with_reducible refine' oi_M ?hm ?hi ?_); (case hm => walk_at "m"); (case hi => exact rfl))
  | ((with_reducible refine' ow_ixT ?hi ?_); (case hi => exact rfl))
  | ((with_reducible refine' cl_M ?hm ?_); (case hm => walk_at "m"))
  | ((with_reducible refine' ci_M ?hm ?_); (case hm => walk_at "m"))
  | ((with_reducible refine' ma_app ?hm ?ll ?_); (case hm => walk_at "m"); (case ll => walk_at "l"))
  | ((with_reducible refine' And.intro (ty_A ?hm) ?_); (case hm => walk_at "m"))
  | (with_reducible refine' Exists.intro _ (And.intro ?he ?_); (case he => exact rfl))
  | (with_reducible refine' Exists.intro _ (Exists.intro _ (And.intro ?he ?_)); (case he => exact rfl))
  | (with_reducible refine' Exists.intro _ (Exists.intro _ (Exists.intro _ (And.intro ?he ?_))); (case he => exact rfl))
  | ((with_reducible refine' Exists.intro _ (Exists.intro _ (Exists.intro _ (Exists.intro _ (Exists.intro _ (And.intro ?e1 (And.intro ?e2 (And.intro ?hm (And.intro ?hi ?_))))))))); (case e1 => exact rfl); (case e2 => exact rfl); (case hm => walk_at "m"); (case hi => exact rfl)))
local macro_rules | `(tactic| walk_at "l") => `(tactic| first | assumption | exact lt_sz (by omega) | exact lt_sz (by simp only [List.length_map, List.length_append, List.length_cons, List.length_nil, List.length_take, List.length_drop, List.length_range]; omega))
local macro_rules | `(tactic| walk_at "s") => `(tactic| repeat (first | walk_at "s1" | walk_at "s2"))
local macro_rules | `(tactic| walk_at "sx") => `(tactic| with_reducible first
  | refine swx_of ?_ | refine swx_seq ?_ | refine swx_drop ?_ | refine swx_asg ?_ | refine swx_ret ?_ | refine ewx_fun ?_ | refine ewx_meth ?_ | refine ewx_make ?_ | refine ewx_sub ?_)
local macro_rules | `(tactic| walk_at "s") => `(tactic| repeat (first | walk_at "s1" | walk_at "s2" | walk_at "sx"))
local macro_rules | `(tactic| walk_at "g1") => `(tactic| with_reducible first
  | refine ew_tup2 ?_ | refine ew_tup3 ?_ | refine ew_tup4 ?_ | refine ew_fldI ?_ | refine sw_fldA ?_ | refine ew_dget1 ?_ | refine ew_dget2 ?_ | refine ow_isN ?_)
local macro_rules | `(tactic| walk_at "g2") => `(tactic| first
  | ((with_reducible refine' gw_tup ?e ?_); (case e => exact rfl))
  | ((with_reducible refine' oi_L ?e ?_); (case e => exact rfl))
  | ((refine' Exists.intro _ (And.intro ?cl (And.intro ?na (And.intro ?e ?_)))); (case cl => assumption); (case na => assumption); (case e => exact rfl))
  | ((refine' Exists.intro _ (Exists.intro _ (Exists.intro _ (Exists.intro _ (And.intro ?e (And.intro ?hm (And.intro ?cl (And.intro ?na (And.intro ?l ?_))))))))); (case e => exact rfl); (case hm => walk_at "m"); (case cl => assumption); (case na => assumption); (case l => exact Nat.le_of_ble_eq_true rfl)))
local macro_rules | `(tactic| walk_at "g") => `(tactic| repeat (first | walk_at "s1" | walk_at "s2" | walk_at "sx" | walk_at "g1" | walk_at "g2"))

section
variable {P : Program} {w : World} {K : PySem.W.Frag} {mg : Str → Option Value} {base : Heap} {a : Ads}
structure Turn (π : List Nat) (n : Nat) : Prop where
  perm : π.Perm (List.range n)
  head : π[0]? = some 0
theorem Turn.mem {π n} (h : Turn π n) {a : Nat} : a ∈ π ↔ a < n := by rw [h.perm.mem_iff, List.mem_range]
theorem Turn.len {π n} (h : Turn π n) : π.length = n := by rw [h.perm.length_eq, List.length_range]
theorem Turn.nd {π n} (h : Turn π n) : π.Nodup := h.perm.nodup_iff.mpr List.nodup_range
theorem Turn.zero {π n} (h : Turn π n) : π.idxOf 0 = 0 := by
  cases π with
  | nil => cases h.head
  | cons a l =>
    have e : a = 0 := by have := h.head; simpa using this
    rw [e, List.idxOf_cons]
    simp
/-- what is handed in for a table: the same service -/
structure HandOk (T T2 : Tab) : Prop where
  ok : TabOk T2
  len : T2.length ≤ 25
  wid : ∀ k, (∀ r ∈ T, r.length = k) → ∀ r ∈ T2, r.length = k
  norm : Normal T → normT T2 = T
end
end DL

set_option Elab.async false
set_option linter.all false
set_option maxRecDepth 100000
set_option maxHeartbeats 4000000
set_option autoImplicit false
namespace DL
open PySem PySem.Spec PyProof.Rows L2
local macro_rules | `(tactic| walk_at "m") => `(tactic| first
  | with_reducible exact MAt.last | with_reducible exact MUp.last
  | exact MAt.zero | exact MUp.zero | exact MAt.last | exact MUp.last
  | (apply MAt.cons; walk_at "m") | (apply MUp.cons; walk_at "m")
  | (apply MAt.app; walk_at "m") | (apply MUp.app; walk_at "m")
  | assumption)
local macro_rules | `(tactic| walk_at "s1") => `(tactic| with_reducible first
  | refine sw_seq ?_ | refine sw_next ?_ | refine sw_ret ?_ | refine sw_retN ?_ | refine sw_asg ?_ | refine sw_asgG ?_ | refine sw_drop ?_ | refine sw_break ?_ | refine sw_cont ?_ | refine sw_par ?_ | refine sw_par3 ?_
  | refine tw_test ?_ | refine tw_B ?_ | refine tw_and ?_ | refine tw_or ?_ | refine tw_not ?_ | refine tw_yes ?_
  | refine ew_op ?_ | refine ew_un ?_ | refine ew_int ?_ | refine ew_non ?_ | refine ew_bl ?_ | refine ew_str ?_ | refine ew_ty ?_ | refine ew_ref ?_ | refine ew_cb ?_ | refine ew_if ?_ | refine ew_andV ?_ | refine ew_orV ?_ | refine ew_notV ?_ | refine ew_chain ?_ | refine ew_sl ?_ | refine pw_no ?_ | refine pw_part ?_
  | refine ew_call0 ?_ | refine ew_kw0 ?_
  | refine aw_nil ?_ | refine aw_cons ?_ | refine ew_bm ?_ | refine ew_bm0 ?_ | refine gs_L ?_
  | refine gs_nil ?_ | refine gs_cons ?_ | refine gw_name ?_
  | refine ow_addI ?_ | refine ow_odd ?_ | refine ow_i0 ?_ | refine ow_b0 ?_ | refine oq_eqI ?_ | refine oq_neI ?_ | refine oq_eqS ?_ | refine oq_neS ?_ | refine ow_isN ?_ | refine ow_notN ?_ | refine uw_neg ?_ | refine cw_int ?_ | refine cw_intB ?_ | refine cw_abs ?_ | refine cw_mx2 ?_ | refine cw_mn2 ?_ | refine cw_lenL ?_ | refine cw_lenR ?_ | refine cw_listL ?_ | refine cw_listT ?_ | refine lw_L ?_ | refine ew_revL ?_)
local macro_rules | `(tactic| walk_at "s2") => `(tactic| first
  | ((with_reducible refine' ew_var ?hv ?_); (case hv => exact rfl))
  | ((with_reducible refine' oi_M ?hm ?hi ?_); (case hm => walk_at "m"); (case hi => exact rfl))
  | ((with_reducible refine' ow_ixT ?hi ?_); (case hi => exact rfl))
  | ((with_reducible refine' cl_M ?hm ?_); (case hm => walk_at "m"))
  | ((with_reducible refine' ci_M ?hm ?_); (case hm => walk_at "m"))
  | ((with_reducible refine' ma_app ?hm ?ll ?_); (case hm => walk_at "m"); (case ll => walk_at "l"))
  | ((with_reducible refine' And.intro (ty_A ?hm) ?_); (case hm => walk_at "m"))
  | (with_reducible refine' Exists.intro _ (And.intro ?he ?_); (case he => exact rfl))
  | (with_reducible refine' Exists.intro _ (Exists.intro _ (And.intro ?he ?_)); (case he => exact rfl))
  | (with_reducible refine' Exists.intro _ (Exists.intro _ (Exists.intro _ (And.intro ?he ?_))); (case he => exact rfl))
  | ((with_reducible refine' Exists.intro _ (Exists.intro _ (Exists.intro _ (Exists.intro _ (Exists.intro _ (And.intro ?e1 (And.intro ?e2 (And.intro ?hm (And.intro ?hi ?_))))))))); (case e1 => exact rfl); (case e2 => exact rfl); (case hm => walk_at "m"); (case hi => exact rfl)))
local macro_rules | `(tactic| walk_at "l") => `(tactic| first | assumption | exact lt_sz (by omega) | exact lt_sz (by simp only [List.length_map, List.length_append, List.length_cons, List.length_nil, List.length_take, List.length_drop, List.length_range]; omega))
local macro_rules | `(tactic| walk_at "s") => `(tactic| repeat (first | walk_at "s1" | walk_at "s2"))
local macro_rules | `(tactic| walk_at "sx") => `(tactic| with_reducible first
  | refine swx_of ?_ | refine swx_seq ?_ | refine swx_drop ?_ | refine swx_asg ?_ | refine swx_ret ?_ | refine ewx_fun ?_ | refine ewx_meth ?_ | refine ewx_make ?_ | refine ewx_sub ?_)
local macro_rules | `(tactic| walk_at "s") => `(tactic| repeat (first | walk_at "s1" | walk_at "s2" | walk_at "sx"))
local macro_rules | `(tactic| walk_at "g1") => `(tactic| with_reducible first
  | refine ew_tup2 ?_ | refine ew_tup3 ?_ | refine ew_tup4 ?_ | refine ew_fldI ?_ | refine sw_fldA ?_ | refine ew_dget1 ?_ | refine ew_dget2 ?_ | refine ow_isN ?_)
local macro_rules | `(tactic| walk_at "g2") => `(tactic| first
  | ((with_reducible refine' gw_tup ?e ?_); (case e => exact rfl))
  | ((with_reducible refine' oi_L ?e ?_); (case e => exact rfl))
  | ((refine' Exists.intro _ (And.intro ?cl (And.intro ?na (And.intro ?e ?_)))); (case cl => assumption); (case na => assumption); (case e => exact rfl))
  | ((refine' Exists.intro _ (Exists.intro _ (Exists.intro _ (Exists.intro _ (And.intro ?e (And.intro ?hm (And.intro ?cl (And.intro ?na (And.intro ?l ?_))))))))); (case e => exact rfl); (case hm => walk_at "m"); (case cl => assumption); (case na => assumption); (case l => exact Nat.le_of_ble_eq_true rfl)))
local macro_rules | `(tactic| walk_at "g") => `(tactic| repeat (first | walk_at "s1" | walk_at "s2" | walk_at "sx" | walk_at "g1" | walk_at "g2"))

section
variable {P : Program} {w : World} {K : PySem.W.Frag} {mg : Str → Option Value} {base : Heap} {a : Ads}
/-! ### the same table with other answers -/
def BigA (t : Option Int) : Prop := ∀ a, t = some a → a.natAbs < 10 ^ 25
theorem BigA.of {t : Option Int} (h : AnsOk t) : BigA t := fun a e => by
  subst e
  have h : -1000 ≤ a ∧ a ≤ 1000 := h
  omega
def farT (f : Option Int → Option Int) (T : Tab) : Tab := T.map fun r => r.map fun p => (p.1, f p.2)
theorem farT_id (T : Tab) : farT id T = T := by
  unfold farT
  conv => rhs; rw [← List.map_id T]
  refine List.map_congr_left fun r _ => ?_
  show r.map (fun p => (p.1, p.2)) = r
  exact List.map_id r
theorem farT_len (f T) : (farT f T).length = T.length := by unfold farT; rw [List.length_map]
theorem farT_ok {T : Tab} (h : TabOk T) (f) : TabOk (farT f T) := by
  refine ⟨by rw [farT_len]; exact h.pos, fun r hr s hs => ?_⟩
  rw [farT_len]
  obtain ⟨r0, h0, rfl⟩ := List.mem_map.mp hr
  obtain ⟨p, hp, rfl⟩ := List.mem_map.mp hs
  exact h.lt r0 h0 p hp
theorem farT_wid {T : Tab} {k : Nat} (h : ∀ r ∈ T, r.length = k) (f) : ∀ r ∈ farT f T, r.length = k := fun r hr => by
  obtain ⟨r0, h0, rfl⟩ := List.mem_map.mp hr
  rw [List.length_map]
  exact h r0 h0
theorem farT_ans {T : Tab} {f} (h : ∀ r ∈ T, ∀ s ∈ r, BigA (f s.2)) : ∀ r ∈ farT f T, ∀ s ∈ r, BigA s.2 := fun r hr s hs => by
  obtain ⟨r0, h0, rfl⟩ := List.mem_map.mp hr
  obtain ⟨p, hp, rfl⟩ := List.mem_map.mp hs
  exact h r0 h0 p hp
def F_far : FS := fun ds m Q => ∃ (p : Addr) (c : Cell) (rest : Mem) (n : Nat) (T : Tab), ds = [.adr p, tabD T] ∧ m = (p, c) :: rest ∧ Kit n c ∧ n + 10 < 2 ^ 40 ∧ T.length ≤ 25 ∧ (∀ r ∈ T, r.length ≤ 14) ∧ (∀ r ∈ T, ∀ s ∈ r, AnsOk s.2) ∧
  ∀ f (c' : Cell), (∀ r ∈ T, ∀ s ∈ r, BigA (f s.2)) → Kit (n + 10) c' → Q (tabD (farT f T)) ((p, c') :: rest)
theorem ok__law_far_answers (T : Txt K mg a) : Def P w K mg base 3 a.f__law_far_answers ["kit", "grid"] (FSn 2 (F_far)) := by
  have nd := sc__law_far_answers.nd
  have C__law_toss := ok__law_toss (P := P) (w := w) (base := base) T
  refine defOk T.h__law_far_answers sc__law_far_answers (fun _ _ _ h => h.1) (fun cdv A outer s H E hr => by exact (pss_cons (ps_if (pt_cmpR op_gt (kx_def K rfl C__law_toss (hr.mono (by decide)) rfl T.g__law_toss T.k__law_toss (pa_cons (pv 0) (pa_cons pe_int pa_nil))) pe_int (nomark _)) (pss_one (ps_ret (pv 1))) pss_nil)
    (pss_cons (ps_set (i := 2) nd rfl (Or.inr rfl) (pe_op op_sub (kx_def K rfl C__law_toss (hr.mono (by decide)) rfl T.g__law_toss T.k__law_toss (pa_cons (pv 0) (pa_cons (pe_op op_mulU pe_int (pe_op op_powW pe_int pe_int)) pa_nil))) (pe_op op_mulU pe_int (pe_op op_powW pe_int pe_int))))
    (pss_cons (ps_set (i := 3) nd rfl (Or.inl rfl) (pe_lst pa_nil))
    (pss_cons (ps_for PassesOwn.never rfl (kx_pi K rfl (pv 1)) (pg_name (i := 4) nd rfl (Or.inl rfl)) (pss_one (ps_expr (kx_bm K rfl PySem.F.plainAttrs_list PySem.F.slot_list_append PySem.F.type_list_append mt_append (pv 3) (pa_cons (pe_lc (own := [("step", 5)]) (g := (gName 5)) (tt := tYes) rfl nd (kx_pi K rfl (pv 4)) (blkOk_by (own := [("step", 5)]) (N := N__law_far_answers) (sc := defScope s__law_far_answers) (by decide +kernel)) (fun _ _ _ _ _ => (pg_name (i := 5) nd rfl (by first | exact Or.inl rfl | exact Or.inr rfl))) (fun _ _ _ _ _ => pts_nil) (fun _ _ _ _ _ => (pe_tup (pa_cons (pe_ix (kx_ix K rfl hr.units) (pv 5) pe_int (fun _ _ => rfl)) (pa_cons (pe_ifExp (pt_cmpR op_isN2 (pe_ix (kx_ix K rfl hr.units) (pv 5) pe_int (fun _ _ => rfl)) pe_non (nomark _)) pe_non (pe_op op_addU (pe_ix (kx_ix K rfl hr.units) (pv 5) pe_int (fun _ _ => rfl)) (pv 2))) pa_nil))))) pa_nil)))))
    (pss_one (ps_ret (pv 3)))))))) (fun ds m Q h => ?_)
  replace h := h.2
  clear nd
  obtain ⟨p, c, rest, n, T', rfl, rfl, hk, hn, tl, tw, ta, q⟩ := h
  refine sw_free ?_
  walk_at "g"
  refine sw_if ?_
  walk_at "g"
  refine tk hk fun r1 c1 h1 k1 => ?_
  walk_at "g"
  refine iteD (fun h0 => ?_) (fun h0 => ?_)
  · walk_at "g"
    have q := q id c1 (fun r hr s hs => BigA.of (ta r hr s hs)) (k1.up (by omega))
    rw [farT_id] at q
    exact ⟨_, .refl, q⟩
  walk_at "g"
  refine ow_ic ⟨by decide, by decide⟩ ?_
  walk_at "g"
  refine ow_mul2 (by decide) ?_
  walk_at "g"
  refine tk k1 (fun r2 c2 h2 k2 => ?_) (by omega) (by decide) (by decide)
  have hr2 : (r2 : Int) < 90000000000000000000 := h2
  walk_at "g"
  refine ow_ic ⟨by decide, by decide⟩ ?_
  walk_at "g"
  refine ow_mul2 (by decide) ?_
  walk_at "g"
  have hb : ∃ b : Int, (r2 : Int) - 45 * 10 ^ (18 : Int).toNat = b ∧ b.natAbs < 10 ^ 21 := ⟨_, rfl, by
    have : (45 : Int) * 10 ^ (18 : Int).toNat = 45000000000000000000 := by decide
    rw [this]
    omega⟩
  obtain ⟨b, eb, hb⟩ := hb
  rw [eb]
  refine ew_lM0 fun z => ?_
  walk_at "g"
  let f : Option Int → Option Int := fun t => t.map fun a => a + b
  refine sw_forX (iw_any ?_)
  walk_at "g"
  refine ⟨_, .inl rfl, List Step, T', rowD, rfl, fun j δ' m' => ∃ x4 : Option D, δ' = [some (.adr p), some (tabD T'), some (.int b), some (.adr z), x4, none] ∧ m' = (p, c2) :: (rest ++ [(z, .lst ((farT f (T'.take j)).map rowD))]), ?_, ?_, ?_⟩
  · exact ⟨_, rfl, rfl⟩
  · rintro j row δ' m' hj ⟨x4, rfl, rfl⟩
    have hrm := List.mem_of_getElem? hj
    have hw := tw row hrm
    have hjl := (List.getElem?_eq_some_iff.mp hj).1
    have ef : farT f (T'.take (j + 1)) = farT f (T'.take j) ++ [row.map fun p => (p.1, f p.2)] := by
      rw [List.take_add_one, hj]
      unfold farT
      rw [List.map_append]
      rfl
    have fl : ((farT f (T'.take j)).map rowD).length ≤ 25 := by rw [List.length_map, farT_len, List.length_take]; omega
    walk_at "g"
    refine ew_lcF (tame_name (by decide)) (iw_any ?_)
    walk_at "g"
    refine ⟨_, .inl rfl, Step, row, stepD, fun p => stepD (p.1, f p.2), rfl, le_sz (by omega), ?_, ?_⟩
    · rintro ⟨g, t⟩ acc z2 hg
      walk_at "g"
      refine ⟨rfl, ?_⟩
      walk_at "g"
      cases t with
      | none =>
        refine iteB (fun _ => ?_) (fun h => by cases h)
        walk_at "g"
        exact ⟨rfl, rfl⟩
      | some a =>
        refine iteB (fun h => by cases h) (fun _ => ?_)
        walk_at "g"
        refine (show OW K rAddU (.int a) (.int b) _ _ from ?_)
        walk_at "g"
        exact ⟨rfl, rfl⟩
    walk_at "g"
    refine ⟨_, rfl, ?_⟩
    rw [ef, List.map_append]
    show _ = (p, c2) :: (rest ++ [(z, Cell.lst (_ ++ [rowD (row.map fun p => (p.1, f p.2))]))])
    have e : rowD (row.map fun p => (p.1, f p.2)) = .lst (row.map fun p => stepD (p.1, f p.2)) := by
      show D.lst _ = D.lst _
      rw [List.map_map]
      rfl
    rw [e]
  · rintro δ' m' ⟨x4, rfl, rfl⟩
    rw [List.take_length]
    refine sw_ret (ew_data ?_)
    walk_at "g"
    refine ⟨z, _, _, (p, c2) :: rest, rfl, .refl _, rfl, _, .refl, q f c2 (fun r hr s hs a ea => ?_) (k2.up (by omega))⟩
    have := ta r hr s hs
    generalize s.2 = t at this ea
    cases t with
    | none => cases ea
    | some a0 =>
      have h3 : -1000 ≤ a0 ∧ a0 ≤ 1000 := this
      have ea : a0 + b = a := by injection ea
      omega
theorem use_far {p : Addr} {c : Cell} {rest : Mem} {n : Nat} {T : Tab} {Q : D → Mem → Prop} (hk : Kit n c) (hn : n + 10 < 2 ^ 40) (tl : T.length ≤ 25) (tw : ∀ r ∈ T, r.length ≤ 14) (ta : ∀ r ∈ T, ∀ s ∈ r, AnsOk s.2)
    (q : ∀ f (c' : Cell), (∀ r ∈ T, ∀ s ∈ r, BigA (f s.2)) → Kit (n + 10) c' → Q (tabD (farT f T)) ((p, c') :: rest)) : FSn 2 F_far [.adr p, tabD T] ((p, c) :: rest) Q := ⟨rfl, p, c, rest, n, T, rfl, rfl, hk, hn, tl, tw, ta, q⟩
end
end DL

set_option Elab.async false
set_option linter.all false
set_option maxRecDepth 100000
set_option maxHeartbeats 4000000
set_option autoImplicit false
namespace DL
open PySem PySem.Spec PyProof.Rows L2
local macro_rules | `(tactic| walk_at "m") => `(tactic| first
  | with_reducible exact MAt.last | with_reducible exact MUp.last
  | exact MAt.zero | exact MUp.zero | exact MAt.last | exact MUp.last
  | (apply MAt.cons; walk_at "m") | (apply MUp.cons; walk_at "m")
  | (apply MAt.app; walk_at "m") | (apply MUp.app; walk_at "m")
  | assumption)
local macro_rules | `(tactic| walk_at "s1") => `(tactic| with_reducible first
  | refine sw_seq ?_ | refine sw_next ?_ | refine sw_ret ?_ | refine sw_retN ?_ | refine sw_asg ?_ | refine sw_asgG ?_ | refine sw_drop ?_ | refine sw_break ?_ | refine sw_cont ?_ | refine sw_par ?_ | refine sw_par3 ?_
  | refine tw_test ?_ | refine tw_B ?_ | refine tw_and ?_ | refine tw_or ?_ | refine tw_not ?_ | refine tw_yes ?_
  | refine ew_op ?_ | refine ew_un ?_ | refine ew_int ?_ | refine ew_non ?_ | refine ew_bl ?_ | refine ew_str ?_ | refine ew_ty ?_ | refine ew_ref ?_ | refine ew_cb ?_ | refine ew_if ?_ | refine ew_andV ?_ | refine ew_orV ?_ | refine ew_notV ?_ | refine ew_chain ?_ | refine ew_sl ?_ | refine pw_no ?_ | refine pw_part ?_
  | refine ew_call0 ?_ | refine ew_kw0 ?_
  | refine aw_nil ?_ | refine aw_cons ?_ | refine ew_bm ?_ | refine ew_bm0 ?_ | refine gs_L ?_
  | refine gs_nil ?_ | refine gs_cons ?_ | refine gw_name ?_
  | refine ow_addI ?_ | refine ow_odd ?_ | refine ow_i0 ?_ | refine ow_b0 ?_ | refine oq_eqI ?_ | refine oq_neI ?_ | refine oq_eqS ?_ | refine oq_neS ?_ | refine ow_isN ?_ | refine ow_notN ?_ | refine uw_neg ?_ | refine cw_int ?_ | refine cw_intB ?_ | refine cw_abs ?_ | refine cw_mx2 ?_ | refine cw_mn2 ?_ | refine cw_lenL ?_ | refine cw_lenR ?_ | refine cw_listL ?_ | refine cw_listT ?_ | refine lw_L ?_ | refine ew_revL ?_)
local macro_rules | `(tactic| walk_at "s2") => `(tactic| first
  | ((with_reducible refine' ew_var ?hv ?_); (case hv => exact rfl))
  | ((with_reducible refine' oi_M ?hm ?hi ?_); (case hm => walk_at "m"); (case hi => exact rfl))
  | ((with_reducible refine' ow_ixT ?hi ?_); (case hi => exact rfl))
  | ((with_reducible refine' cl_M ?hm ?_); (case hm => walk_at "m"))
  | ((with_reducible refine' ci_M ?hm ?_); (case hm => walk_at "m"))
  | ((with_reducible refine' ma_app ?hm ?ll ?_); (case hm => walk_at "m"); (case ll => walk_at "l"))
  | ((with_reducible refine' And.intro (ty_A ?hm) ?_); (case hm => walk_at "m"))
  | (with_reducible refine' Exists.intro _ (And.intro ?he ?_); (case he => exact rfl))
  | (with_reducible refine' Exists.intro _ (Exists.intro _ (And.intro ?he ?_)); (case he => exact rfl))
  | (with_reducible refine' Exists.intro _ (Exists.intro _ (Exists.intro _ (And.intro ?he ?_))); (case he => exact rfl))
  | ((with_reducible refine' Exists.intro _ (Exists.intro _ (Exists.intro _ (Exists.intro _ (Exists.intro _ (And.intro ?e1 (And.intro ?e2 (And.intro ?hm (And.intro ?hi ?_))))))))); (case e1 => exact rfl); (case e2 => exact rfl); (case hm => walk_at "m"); (case hi => exact rfl)))
local macro_rules | `(tactic| walk_at "l") => `(tactic| first | assumption | exact lt_sz (by omega) | exact lt_sz (by simp only [List.length_map, List.length_append, List.length_cons, List.length_nil, List.length_take, List.length_drop, List.length_range]; omega))
local macro_rules | `(tactic| walk_at "s") => `(tactic| repeat (first | walk_at "s1" | walk_at "s2"))
local macro_rules | `(tactic| walk_at "sx") => `(tactic| with_reducible first
  | refine swx_of ?_ | refine swx_seq ?_ | refine swx_drop ?_ | refine swx_asg ?_ | refine swx_ret ?_ | refine ewx_fun ?_ | refine ewx_meth ?_ | refine ewx_make ?_ | refine ewx_sub ?_)
local macro_rules | `(tactic| walk_at "s") => `(tactic| repeat (first | walk_at "s1" | walk_at "s2" | walk_at "sx"))
local macro_rules | `(tactic| walk_at "g1") => `(tactic| with_reducible first
  | refine ew_tup2 ?_ | refine ew_tup3 ?_ | refine ew_tup4 ?_ | refine ew_fldI ?_ | refine sw_fldA ?_ | refine ew_dget1 ?_ | refine ew_dget2 ?_ | refine ow_isN ?_)
local macro_rules | `(tactic| walk_at "g2") => `(tactic| first
  | ((with_reducible refine' gw_tup ?e ?_); (case e => exact rfl))
  | ((with_reducible refine' oi_L ?e ?_); (case e => exact rfl))
  | ((refine' Exists.intro _ (And.intro ?cl (And.intro ?na (And.intro ?e ?_)))); (case cl => assumption); (case na => assumption); (case e => exact rfl))
  | ((refine' Exists.intro _ (Exists.intro _ (Exists.intro _ (Exists.intro _ (And.intro ?e (And.intro ?hm (And.intro ?cl (And.intro ?na (And.intro ?l ?_))))))))); (case e => exact rfl); (case hm => walk_at "m"); (case cl => assumption); (case na => assumption); (case l => exact Nat.le_of_ble_eq_true rfl)))
local macro_rules | `(tactic| walk_at "g") => `(tactic| repeat (first | walk_at "s1" | walk_at "s2" | walk_at "sx" | walk_at "g1" | walk_at "g2"))

section
variable {P : Program} {w : World} {K : PySem.W.Frag} {mg : Str → Option Value} {base : Heap} {a : Ads}
theorem ansD_nb (x : Option Int) : (ansD x).nb 0 = true := by cases x <;> rfl
theorem rowD_nb (r : List Step) : (rowD r).nb 2 = true := by
  show (r.map stepD).all (D.nb 1) = true
  rw [List.all_eq_true]
  intro x hx
  obtain ⟨p, _, rfl⟩ := List.mem_map.mp hx
  show (true && ((ansD p.2).nb 0 && true)) = true
  rw [ansD_nb]
  rfl
theorem tabD_nb (T : Tab) : (tabD T).nb 3 = true := by
  show (T.map rowD).all (D.nb 2) = true
  rw [List.all_eq_true]
  intro x hx
  obtain ⟨r, _, rfl⟩ := List.mem_map.mp hx
  exact rowD_nb r
theorem ansD_inj {x y : Option Int} (h : ansD x = ansD y) : x = y := by
  cases x <;> cases y <;> first | rfl | (injection h with h; rw [h]) | cases h
theorem stepD_inj {x y : Step} (h : stepD x = stepD y) : x = y := by
  obtain ⟨a, b⟩ := x
  obtain ⟨c, d⟩ := y
  injection h with h
  injection h with h1 h2
  injection h1 with h1
  injection h2 with h2
  have e1 : (a : Int) = c := h1
  have e2 : b = d := ansD_inj h2
  rw [e2, show a = c by omega]
theorem tabD_inj {T T' : Tab} (h : tabD T = tabD T') : T = T' := by
  injection h with h
  exact mapD_inj (fun x y e => by injection e with e; exact mapD_inj (fun _ _ => stepD_inj) e) h
def F_eqU (C : Addr) : FS := fun ds m Q => ∃ (ws : List Str) (T : Tab) (y : D), ds = [srvD C ws T, y] ∧ Srv ws T ∧
  ((∃ (ws' : List Str) (T' : Tab), y = srvD C ws' T' ∧ Srv ws' T' ∧ ∀ b : Bool, (b = true ↔ ws = ws' ∧ T = T') → Q (.bl b) m) ∨ (OddD m y ∧ Q (.bl false) m))
theorem ok_Service___eq__ (T : Txt K mg a) : Def P w K mg base 2 a.f_Service___eq__ ["self", "other"] (FSn 2 (F_eqU a.c_Service)) := by
  have nd := sc_Service___eq__.nd
  refine defOk T.h_Service___eq__ sc_Service___eq__ (fun _ _ _ h => h.1) (fun cdv A outer s H E hr => by exact (pss_cons (ps_if (pt_not (pt_val (pe_callB (kx_isi K rfl) (by rfl) T.n_isinstance (by decide +kernel) (pa_cons (pv 1) (pa_cons (pe_glob (v := .ref a.c_Service) rfl T.g_Service rfl) pa_nil))))) (pss_one (ps_ret pe_bl)) pss_nil)
    (pss_one (ps_ret (pe_and (pe_cmpR (kx_eqU K rfl hr.units) (kx_fld K rfl (pv 0)) (kx_fld K rfl (pv 1)) (nomark _)) (pe_one (pe_cmpR (kx_eqU K rfl hr.units) (kx_fld K rfl (pv 0)) (kx_fld K rfl (pv 1)) (nomark _)))))))) (fun ds m Q h => ?_)
  replace h := h.2
  clear nd
  have gS := T.g_Service
  have cl := T.cl_Service
  have na1 := T.na_Service__names
  have na3 := T.na_Service__rows
  have io := T.io_Service
  have oi := T.oi_Service
  obtain ⟨ws, T, y, rfl, sv, q⟩ := h
  rcases q with ⟨ws', T', rfl, sv', q⟩ | ⟨od, q⟩
  rotate_left
  · walk_at "s"
    refine sw_if ?_
    walk_at "s"
    refine cw_isiOdd od oi ?_
    walk_at "s"
    rw [if_pos (by decide)]
    walk_at "s"
    exact q
  walk_at "s"
  refine sw_if ?_
  walk_at "s"
  refine cw_isiO cl io ?_
  walk_at "s"
  rw [if_neg (by decide)]
  walk_at "s"
  refine ew_fldI ?_
  walk_at "s"
  refine ⟨_, cl, na1, rfl, ?_⟩
  walk_at "s"
  refine ew_fldI ?_
  walk_at "s"
  refine ⟨_, cl, na1, rfl, ?_⟩
  refine oq_eq 1 (strs_nb sv.str) (strs_nb sv'.str) fun b hb => ?_
  walk_at "s"
  have hw : b = true ↔ ws = ws' := hb.trans ⟨fun e => by injection e with e; exact strD_inj e, fun e => by rw [e]⟩
  refine iteB (fun e => ?_) (fun e => ?_)
  · walk_at "s"
    refine ew_fldI ?_
    walk_at "s"
    refine ⟨_, cl, na3, rfl, ?_⟩
    walk_at "s"
    refine ew_fldI ?_
    walk_at "s"
    refine ⟨_, cl, na3, rfl, ?_⟩
    refine oq_eq 3 (tabD_nb T) (tabD_nb T') fun c hc => ?_
    exact q c ⟨fun h => ⟨hw.mp e, tabD_inj (hc.mp h)⟩, fun h => hc.mpr (by rw [h.2])⟩
  · refine q false ⟨fun h => Bool.noConfusion h, fun h => ?_⟩
    rw [hw.mpr h.1] at e
    cases e
def F_built (C : Addr) : FS := fun ds m Q => ∃ (ws : List Str) (T : Tab), ds = [.lst (ws.map .str), tabD T] ∧ SvcIn ws T ∧ Q (srvD C ws (normT T)) m
theorem ok__law_built (T : Txt K mg a) : Def P w K mg base 8 a.f__law_built ["names_here", "grid"] (FSn 2 (F_built a.c_Service)) := by
  have nd := sc__law_built.nd
  have C_Service___init__ := ok_Service___init__ (P := P) (w := w) (base := base) T
  refine defOk T.h__law_built sc__law_built (fun _ _ _ h => h.1) (fun cdv A outer s H E hr => by exact (pss_one (ps_ret (kx_make K rfl T.mk_Service C_Service___init__ (hr.mono (by decide)) rfl T.g_Service (pa_cons (pe_callTy (kx_list K rfl) (by rfl) T.n_list (by decide +kernel) (pa_cons (pv 0) pa_nil)) (pa_cons (pe_lc (own := [("line", 2)]) (g := (gName 2)) (tt := tYes) rfl nd (kx_pi K rfl (pv 1)) (blkOk_by (own := [("line", 2)]) (N := N__law_built) (sc := defScope s__law_built) (by decide +kernel)) (fun _ _ _ _ _ => (pg_name (i := 2) nd rfl (by first | exact Or.inl rfl | exact Or.inr rfl))) (fun _ _ _ _ _ => pts_nil) (fun _ _ _ _ _ => (pe_callTy (kx_list K rfl) (by rfl) T.n_list (by decide +kernel) (pa_cons (pv 2) pa_nil)))) pa_nil)))))) (fun ds m Q h => ?_)
  replace h := h.2
  clear nd
  have gS := T.g_Service
  obtain ⟨ws, T, rfl, sv, q⟩ := h
  have hle := sv.le
  walk_at "s"
  refine ew_make (dd := []) (fun F => .nil) ?_
  walk_at "s"
  refine ew_lcF (tame_name (by decide)) (iw_any ?_)
  walk_at "s"
  refine ⟨_, .inl rfl, List Step, T, rowD, rowD, rfl, le_sz (by omega), ?_, ?_⟩
  · intro r acc z hr
    walk_at "s"
    refine ⟨rfl, ?_⟩
    walk_at "s"
    exact ⟨rfl, rfl⟩
  · walk_at "s"
    intro z
    refine ⟨rfl, m, z, ws, T, rfl, rfl, sv, fun fs hfs => ⟨rfl, m, fs, rfl, ?_⟩⟩
    rw [← hfs]
    exact q

end
end DL

set_option Elab.async false
set_option linter.all false
set_option maxRecDepth 100000
set_option maxHeartbeats 4000000
set_option autoImplicit false
namespace DL
open PySem PySem.Spec PyProof.Rows L2
local macro_rules | `(tactic| walk_at "m") => `(tactic| first
  | with_reducible exact MAt.last | with_reducible exact MUp.last
  | exact MAt.zero | exact MUp.zero | exact MAt.last | exact MUp.last
  | (apply MAt.cons; walk_at "m") | (apply MUp.cons; walk_at "m")
  | (apply MAt.app; walk_at "m") | (apply MUp.app; walk_at "m")
  | assumption)
local macro_rules | `(tactic| walk_at "s1") => `(tactic| with_reducible first
  | refine sw_seq ?_ | refine sw_next ?_ | refine sw_ret ?_ | refine sw_retN ?_ | refine sw_asg ?_ | refine sw_asgG ?_ | refine sw_drop ?_ | refine sw_break ?_ | refine sw_cont ?_ | refine sw_par ?_ | refine sw_par3 ?_
  | refine tw_test ?_ | refine tw_B ?_ | refine tw_and ?_ | refine tw_or ?_ | refine tw_not ?_ | refine tw_yes ?_
  | refine ew_op ?_ | refine ew_un ?_ | refine ew_int ?_ | refine ew_non ?_ | refine ew_bl ?_ | refine ew_str ?_ | refine ew_ty ?_ | refine ew_ref ?_ | refine ew_cb ?_ | refine ew_if ?_ | refine ew_andV ?_ | refine ew_orV ?_ | refine ew_notV ?_ | refine ew_chain ?_ | refine ew_sl ?_ | refine pw_no ?_ | refine pw_part ?_
  | refine ew_call0 ?_ | refine ew_kw0 ?_
  | refine aw_nil ?_ | refine aw_cons ?_ | refine ew_bm ?_ | refine ew_bm0 ?_ | refine gs_L ?_
  | refine gs_nil ?_ | refine gs_cons ?_ | refine gw_name ?_
  | refine ow_addI ?_ | refine ow_odd ?_ | refine ow_i0 ?_ | refine ow_b0 ?_ | refine oq_eqI ?_ | refine oq_neI ?_ | refine oq_eqS ?_ | refine oq_neS ?_ | refine ow_isN ?_ | refine ow_notN ?_ | refine uw_neg ?_ | refine cw_int ?_ | refine cw_intB ?_ | refine cw_abs ?_ | refine cw_mx2 ?_ | refine cw_mn2 ?_ | refine cw_lenL ?_ | refine cw_lenR ?_ | refine cw_listL ?_ | refine cw_listT ?_ | refine lw_L ?_ | refine ew_revL ?_)
local macro_rules | `(tactic| walk_at "s2") => `(tactic| first
  | ((with_reducible refine' ew_var ?hv ?_); (case hv => exact rfl))
  | ((with_reducible refine' oi_M ?hm ?hi ?_); (case hm => walk_at "m"); (case hi => exact rfl))
  | ((with_reducible refine' ow_ixT ?hi ?_); (case hi => exact rfl))
  | ((with_reducible refine' cl_M ?hm ?_); (case hm => walk_at "m"))
  | ((with_reducible refine' ci_M ?hm ?_); (case hm => walk_at "m"))
  | ((with_reducible refine' ma_app ?hm ?ll ?_); (case hm => walk_at "m"); (case ll => walk_at "l"))
  | ((with_reducible refine' And.intro (ty_A ?hm) ?_); (case hm => walk_at "m"))
  | (with_reducible refine' Exists.intro _ (And.intro ?he ?_); (case he => exact rfl))
  | (with_reducible refine' Exists.intro _ (Exists.intro _ (And.intro ?he ?_)); (case he => exact rfl))
  | (with_reducible refine' Exists.intro _ (Exists.intro _ (Exists.intro _ (And.intro ?he ?_))); (case he => exact rfl))
  | ((with_reducible refine' Exists.intro _ (Exists.intro _ (Exists.intro _ (Exists.intro _ (Exists.intro _ (And.intro ?e1 (And.intro ?e2 (And.intro ?hm (And.intro ?hi ?_))))))))); (case e1 => exact rfl); (case e2 => exact rfl); (case hm => walk_at "m"); (case hi => exact rfl)))
local macro_rules | `(tactic| walk_at "l") => `(tactic| first | assumption | exact lt_sz (by omega) | exact lt_sz (by simp only [List.length_map, List.length_append, List.length_cons, List.length_nil, List.length_take, List.length_drop, List.length_range]; omega))
local macro_rules | `(tactic| walk_at "s") => `(tactic| repeat (first | walk_at "s1" | walk_at "s2"))
local macro_rules | `(tactic| walk_at "sx") => `(tactic| with_reducible first
  | refine swx_of ?_ | refine swx_seq ?_ | refine swx_drop ?_ | refine swx_asg ?_ | refine swx_ret ?_ | refine ewx_fun ?_ | refine ewx_meth ?_ | refine ewx_make ?_ | refine ewx_sub ?_)
local macro_rules | `(tactic| walk_at "s") => `(tactic| repeat (first | walk_at "s1" | walk_at "s2" | walk_at "sx"))
local macro_rules | `(tactic| walk_at "g1") => `(tactic| with_reducible first
  | refine ew_tup2 ?_ | refine ew_tup3 ?_ | refine ew_tup4 ?_ | refine ew_fldI ?_ | refine sw_fldA ?_ | refine ew_dget1 ?_ | refine ew_dget2 ?_ | refine ow_isN ?_)
local macro_rules | `(tactic| walk_at "g2") => `(tactic| first
  | ((with_reducible refine' gw_tup ?e ?_); (case e => exact rfl))
  | ((with_reducible refine' oi_L ?e ?_); (case e => exact rfl))
  | ((refine' Exists.intro _ (And.intro ?cl (And.intro ?na (And.intro ?e ?_)))); (case cl => assumption); (case na => assumption); (case e => exact rfl))
  | ((refine' Exists.intro _ (Exists.intro _ (Exists.intro _ (Exists.intro _ (And.intro ?e (And.intro ?hm (And.intro ?cl (And.intro ?na (And.intro ?l ?_))))))))); (case e => exact rfl); (case hm => walk_at "m"); (case cl => assumption); (case na => assumption); (case l => exact Nat.le_of_ble_eq_true rfl)))
local macro_rules | `(tactic| walk_at "g") => `(tactic| repeat (first | walk_at "s1" | walk_at "s2" | walk_at "sx" | walk_at "g1" | walk_at "g2"))

section
variable {P : Program} {w : World} {K : PySem.W.Frag} {mg : Str → Option Value} {base : Heap} {a : Ads}
def F_calls (C : Addr) : FS := fun ds m Q => ∃ (ws : List Str) (T : Tab), ds = [srvD C ws T] ∧ Q (.lst (ws.map .str)) m
theorem ok_Service_calls (T : Txt K mg a) : Def P w K mg base 2 a.f_Service_calls ["self"] (FSn 1 (F_calls a.c_Service)) := by
  have nd := sc_Service_calls.nd
  refine defOk T.h_Service_calls sc_Service_calls (fun _ _ _ h => h.1) (fun cdv A outer s H E hr => by exact (pss_one (ps_ret (pe_callTy (kx_list K rfl) (by rfl) T.n_list (by decide +kernel) (pa_cons (kx_fld K rfl (pv 0)) pa_nil))))) (fun ds m Q h => ?_)
  replace h := h.2
  clear nd
  have cl := T.cl_Service
  have na1 := T.na_Service__names
  obtain ⟨ws, T, rfl, q⟩ := h
  walk_at "g"
  exact q
def F_table (C : Addr) : FS := fun ds m Q => ∃ (ws : List Str) (T : Tab), ds = [srvD C ws T] ∧ T.length ≤ 1000 ∧ Q (tabD T) m
theorem ok_Service_table (T : Txt K mg a) : Def P w K mg base 2 a.f_Service_table ["self"] (FSn 1 (F_table a.c_Service)) := by
  have nd := sc_Service_table.nd
  refine defOk T.h_Service_table sc_Service_table (fun _ _ _ h => h.1) (fun cdv A outer s H E hr => by exact (pss_one (ps_ret (pe_lc (own := [("row", 1)]) (g := (gName 1)) (tt := tYes) rfl nd (kx_pi K rfl (kx_fld K rfl (pv 0))) (blkOk_by (own := [("row", 1)]) (N := N_Service_table) (sc := defScope s_Service_table) (by decide +kernel)) (fun _ _ _ _ _ => (pg_name (i := 1) nd rfl (by first | exact Or.inl rfl | exact Or.inr rfl))) (fun _ _ _ _ _ => pts_nil) (fun _ _ _ _ _ => (pe_callTy (kx_list K rfl) (by rfl) T.n_list (by decide +kernel) (pa_cons (pv 1) pa_nil))))))) (fun ds m Q h => ?_)
  replace h := h.2
  clear nd
  have cl := T.cl_Service
  have na3 := T.na_Service__rows
  obtain ⟨ws, T, rfl, hT, q⟩ := h
  walk_at "g"
  refine ew_lcF (tame_name (by decide)) (iw_any ?_)
  walk_at "g"
  refine ⟨_, .inl rfl, List Step, T, rowD, rowD, rfl, le_sz (by omega), ?_, ?_⟩
  · intro r acc z hr
    walk_at "g"
    refine ⟨rfl, ?_⟩
    walk_at "g"
    exact ⟨rfl, rfl⟩
  · exact q

end
end DL

set_option Elab.async false
set_option linter.all false
set_option maxRecDepth 100000
set_option maxHeartbeats 4000000
set_option autoImplicit false
namespace DL
open PySem PySem.Spec PyProof.Rows L2
local macro_rules | `(tactic| walk_at "m") => `(tactic| first
  | with_reducible exact MAt.last | with_reducible exact MUp.last
  | exact MAt.zero | exact MUp.zero | exact MAt.last | exact MUp.last
  | (apply MAt.cons; walk_at "m") | (apply MUp.cons; walk_at "m")
  | (apply MAt.app; walk_at "m") | (apply MUp.app; walk_at "m")
  | assumption)
local macro_rules | `(tactic| walk_at "s1") => `(tactic| with_reducible first
  | refine sw_seq ?_ | refine sw_next ?_ | refine sw_ret ?_ | refine sw_retN ?_ | refine sw_asg ?_ | refine sw_asgG ?_ | refine sw_drop ?_ | refine sw_break ?_ | refine sw_cont ?_ | refine sw_par ?_ | refine sw_par3 ?_
  | refine tw_test ?_ | refine tw_B ?_ | refine tw_and ?_ | refine tw_or ?_ | refine tw_not ?_ | refine tw_yes ?_
  | refine ew_op ?_ | refine ew_un ?_ | refine ew_int ?_ | refine ew_non ?_ | refine ew_bl ?_ | refine ew_str ?_ | refine ew_ty ?_ | refine ew_ref ?_ | refine ew_cb ?_ | refine ew_if ?_ | refine ew_andV ?_ | refine ew_orV ?_ | refine ew_notV ?_ | refine ew_chain ?_ | refine ew_sl ?_ | refine pw_no ?_ | refine pw_part ?_
  | refine ew_call0 ?_ | refine ew_kw0 ?_
  | refine aw_nil ?_ | refine aw_cons ?_ | refine ew_bm ?_ | refine ew_bm0 ?_ | refine gs_L ?_
  | refine gs_nil ?_ | refine gs_cons ?_ | refine gw_name ?_
  | refine ow_addI ?_ | refine ow_odd ?_ | refine ow_i0 ?_ | refine ow_b0 ?_ | refine oq_eqI ?_ | refine oq_neI ?_ | refine oq_eqS ?_ | refine oq_neS ?_ | refine ow_isN ?_ | refine ow_notN ?_ | refine uw_neg ?_ | refine cw_int ?_ | refine cw_intB ?_ | refine cw_abs ?_ | refine cw_mx2 ?_ | refine cw_mn2 ?_ | refine cw_lenL ?_ | refine cw_lenR ?_ | refine cw_listL ?_ | refine cw_listT ?_ | refine lw_L ?_ | refine ew_revL ?_)
local macro_rules | `(tactic| walk_at "s2") => `(tactic| first
  | ((with_reducible refine' ew_var ?hv ?_); (case hv => exact rfl))
  | ((with_reducible refine' oi_M ?hm ?hi ?_); (case hm => walk_at "m"); (case hi => exact rfl))
  | ((with_reducible refine' ow_ixT ?hi ?_); (case hi => exact rfl))
  | ((with_reducible refine' cl_M ?hm ?_); (case hm => walk_at "m"))
  | ((with_reducible refine' ci_M ?hm ?_); (case hm => walk_at "m"))
  | ((with_reducible refine' ma_app ?hm ?ll ?_); (case hm => walk_at "m"); (case ll => walk_at "l"))
  | ((with_reducible refine' And.intro (ty_A ?hm) ?_); (case hm => walk_at "m"))
  | (with_reducible refine' Exists.intro _ (And.intro ?he ?_); (case he => exact rfl))
  | (with_reducible refine' Exists.intro _ (Exists.intro _ (And.intro ?he ?_)); (case he => exact rfl))
  | (with_reducible refine' Exists.intro _ (Exists.intro _ (Exists.intro _ (And.intro ?he ?_))); (case he => exact rfl))
  | ((with_reducible refine' Exists.intro _ (Exists.intro _ (Exists.intro _ (Exists.intro _ (Exists.intro _ (And.intro ?e1 (And.intro ?e2 (And.intro ?hm (And.intro ?hi ?_))))))))); (case e1 => exact rfl); (case e2 => exact rfl); (case hm => walk_at "m"); (case hi => exact rfl)))
local macro_rules | `(tactic| walk_at "l") => `(tactic| first | assumption | exact lt_sz (by omega) | exact lt_sz (by simp only [List.length_map, List.length_append, List.length_cons, List.length_nil, List.length_take, List.length_drop, List.length_range]; omega))
local macro_rules | `(tactic| walk_at "s") => `(tactic| repeat (first | walk_at "s1" | walk_at "s2"))
local macro_rules | `(tactic| walk_at "sx") => `(tactic| with_reducible first
  | refine swx_of ?_ | refine swx_seq ?_ | refine swx_drop ?_ | refine swx_asg ?_ | refine swx_ret ?_ | refine ewx_fun ?_ | refine ewx_meth ?_ | refine ewx_make ?_ | refine ewx_sub ?_)
local macro_rules | `(tactic| walk_at "s") => `(tactic| repeat (first | walk_at "s1" | walk_at "s2" | walk_at "sx"))
local macro_rules | `(tactic| walk_at "g1") => `(tactic| with_reducible first
  | refine ew_tup2 ?_ | refine ew_tup3 ?_ | refine ew_tup4 ?_ | refine ew_fldI ?_ | refine sw_fldA ?_ | refine ew_dget1 ?_ | refine ew_dget2 ?_ | refine ow_isN ?_)
local macro_rules | `(tactic| walk_at "g2") => `(tactic| first
  | ((with_reducible refine' gw_tup ?e ?_); (case e => exact rfl))
  | ((with_reducible refine' oi_L ?e ?_); (case e => exact rfl))
  | ((refine' Exists.intro _ (And.intro ?cl (And.intro ?na (And.intro ?e ?_)))); (case cl => assumption); (case na => assumption); (case e => exact rfl))
  | ((refine' Exists.intro _ (Exists.intro _ (Exists.intro _ (Exists.intro _ (And.intro ?e (And.intro ?hm (And.intro ?cl (And.intro ?na (And.intro ?l ?_))))))))); (case e => exact rfl); (case hm => walk_at "m"); (case cl => assumption); (case na => assumption); (case l => exact Nat.le_of_ble_eq_true rfl)))
local macro_rules | `(tactic| walk_at "g") => `(tactic| repeat (first | walk_at "s1" | walk_at "s2" | walk_at "sx" | walk_at "g1" | walk_at "g2"))

section
variable {P : Program} {w : World} {K : PySem.W.Frag} {mg : Str → Option Value} {base : Heap} {a : Ads}
/-- how four comparisons are shown -/
def bothL (b : Bool) : D := .lst [.bl b, .bl b, .bl (!b), .bl (!b)]
def bothT (b : Bool) : Str := (bothL b).py.shown
theorem both_tw (b : Bool) : TwQ 1 2000 (bothL b).py := by
  refine (TwQ.list (n := 0) (B := 300) (N := 4) (xs := [.bl b, .bl b, .bl (!b), .bl (!b)]) (fun x hx => ?_) (Nat.le_refl 4)).up (Nat.le_refl _) (by omega)
  simp only [List.mem_cons, List.not_mem_nil, or_false] at hx
  rcases hx with rfl | rfl | rfl | rfl
  · exact twQ_bl b
  · exact twQ_bl b
  · exact twQ_bl _
  · exact twQ_bl _
theorem cw_both {K : PySem.W.Frag} {m : Mem} {Q : D → Mem → Prop} {b : Bool} (q : Q (.str (bothT b)) m) : CW K (rReprU K) [.lst [.bl b, .bl b, .bl (!b), .bl (!b)]] m Q :=
  cw_showU (Res.fl (n := 1) (show (bothL b).fl 1 = true by cases b <;> rfl)) (.inl ⟨_, rfl⟩) (both_tw b).shw (by decide) (le_sz (by omega)) q
def F_both (C : Addr) : FS := fun ds m Q => ∃ (ws : List Str) (T : Tab) (y : D), ds = [srvD C ws T, y] ∧ Srv ws T ∧
  ((∃ (ws' : List Str) (T' : Tab), y = srvD C ws' T' ∧ Srv ws' T' ∧ ∀ b : Bool, (b = true ↔ ws = ws' ∧ T = T') → Q (.str (bothT b)) m) ∨ (OddD m y ∧ Q (.str (bothT false)) m))
theorem ok__law_both (T : Txt K mg a) : DefG P w K mg base 4 a.f__law_both ["one_here", "two_here"] (FSn 2 (F_both a.c_Service)) := by
  have nd := sc__law_both.nd
  have C_Service___eq__ := ok_Service___eq__ (P := P) (w := w) (base := base) T
  have C_Service___eq__ := ok_Service___eq__ (P := P) (w := w) (base := base) T
  refine defOkG T.h__law_both sc__law_both (fun _ _ _ h => h.1) (fun cdv A outer s H hg hr => by exact (pss_one (ps_ret (pe_callB (kx_reprU K rfl hg (h66 hr)) (by rfl) T.n_repr (by decide +kernel) (pa_cons (pe_lst (pa_cons (pe_cmpR (OpR.or (kx_ownEq K rfl T.eq_Service C_Service___eq__ (hr.mono (by decide))) (OpR.or (kx_oddEq (way := true) K rfl T.eq_Service T.odd_Service C_Service___eq__ (hr.mono (by decide))) (kx_oddEq (way := false) K rfl T.eq_Service T.odd_Service C_Service___eq__ (hr.mono (by decide))))) (pv 0) (pv 1) (nomark _)) (pa_cons (pe_cmpR (OpR.or (kx_ownEq K rfl T.eq_Service C_Service___eq__ (hr.mono (by decide))) (OpR.or (kx_oddEq (way := true) K rfl T.eq_Service T.odd_Service C_Service___eq__ (hr.mono (by decide))) (kx_oddEq (way := false) K rfl T.eq_Service T.odd_Service C_Service___eq__ (hr.mono (by decide))))) (pv 1) (pv 0) (nomark _)) (pa_cons (pe_cmpR (OpR.or (kx_ownNe K rfl T.eq_Service T.ne_Service C_Service___eq__ (hr.mono (by decide))) (OpR.or (kx_oddNe (way := true) K rfl T.eq_Service T.ne_Service T.odd_Service C_Service___eq__ (hr.mono (by decide)) (hr.mono (by decide))) (kx_oddNe (way := false) K rfl T.eq_Service T.ne_Service T.odd_Service C_Service___eq__ (hr.mono (by decide)) (hr.mono (by decide))))) (pv 0) (pv 1) (nomark _)) (pa_cons (pe_cmpR (OpR.or (kx_ownNe K rfl T.eq_Service T.ne_Service C_Service___eq__ (hr.mono (by decide))) (OpR.or (kx_oddNe (way := true) K rfl T.eq_Service T.ne_Service T.odd_Service C_Service___eq__ (hr.mono (by decide)) (hr.mono (by decide))) (kx_oddNe (way := false) K rfl T.eq_Service T.ne_Service T.odd_Service C_Service___eq__ (hr.mono (by decide)) (hr.mono (by decide))))) (pv 1) (pv 0) (nomark _)) pa_nil))))) pa_nil))))) (fun ds m Q h => ?_)
  replace h := h.2
  clear nd
  have gS := T.g_Service
  obtain ⟨ws, T, y, rfl, sv, q⟩ := h
  rcases q with ⟨ws', T', rfl, sv', q⟩ | ⟨od, q⟩
  · have e : ∃ b : Bool, (b = true ↔ ws = ws' ∧ T = T') := ⟨decide (ws = ws' ∧ T = T'), decide_eq_true_iff⟩
    obtain ⟨b, hb⟩ := e
    have hb2 : b = true ↔ ws' = ws ∧ T' = T := hb.trans ⟨fun z => ⟨z.1.symm, z.2.symm⟩, fun z => ⟨z.1.symm, z.2.symm⟩⟩
    have same : ∀ {c d : Bool} {p : Prop}, (c = true ↔ p) → (d = true ↔ p) → d = c := fun {c d p} h1 h2 => by
      cases c <;> cases d <;> simp_all
    walk_at "g"
    refine ew_l4 ?_
    refine ew_op (ew_var rfl (ew_var rfl (ow_or1 (ow_own ⟨rfl, ws, T, _, rfl, sv, .inl ⟨ws', T', rfl, sv', fun c hc => ⟨c, rfl, ?_⟩⟩⟩))))
    obtain rfl := same hb hc
    refine ew_op (ew_var rfl (ew_var rfl (ow_or1 (ow_own ⟨rfl, ws', T', _, rfl, sv', .inl ⟨ws, T, rfl, sv, fun c hc => ⟨c, rfl, ?_⟩⟩⟩))))
    obtain rfl := same hb2 hc
    refine ew_op (ew_var rfl (ew_var rfl (ow_or1 (ow_ownNe ⟨rfl, ws, T, _, rfl, sv, .inl ⟨ws', T', rfl, sv', fun c hc => ⟨c, rfl, ?_⟩⟩⟩))))
    obtain rfl := same hb hc
    refine ew_op (ew_var rfl (ew_var rfl (ow_or1 (ow_ownNe ⟨rfl, ws', T', _, rfl, sv', .inl ⟨ws, T, rfl, sv, fun c hc => ⟨c, rfl, ?_⟩⟩⟩))))
    obtain rfl := same hb2 hc
    exact aw_nil (cw_both (q _ hb))
  · walk_at "g"
    refine ew_l4 ?_
    refine ew_op (ew_var rfl (ew_var rfl (ow_or2 (ow_or1 (ow_oddL od ⟨rfl, ws, T, y, rfl, sv, .inr ⟨od, false, rfl, ?_⟩⟩)))))
    refine ew_op (ew_var rfl (ew_var rfl (ow_or2 (ow_or2 (ow_oddR od ⟨rfl, ws, T, y, rfl, sv, .inr ⟨od, false, rfl, ?_⟩⟩)))))
    refine ew_op (ew_var rfl (ew_var rfl (ow_or2 (ow_or1 (ow_oddL od ⟨rfl, ws, T, y, rfl, sv, .inr ⟨od, false, rfl, ?_⟩⟩)))))
    refine ew_op (ew_var rfl (ew_var rfl (ow_or2 (ow_or2 (ow_oddR od ⟨rfl, ws, T, y, rfl, sv, .inr ⟨od, false, rfl, ?_⟩⟩)))))
    exact aw_nil (cw_both q)

end
end DL

set_option Elab.async false
set_option linter.all false
set_option maxRecDepth 100000
set_option maxHeartbeats 4000000
set_option autoImplicit false
namespace DL
open PySem PySem.Spec PyProof.Rows L2
local macro_rules | `(tactic| walk_at "m") => `(tactic| first
  | with_reducible exact MAt.last | with_reducible exact MUp.last
  | exact MAt.zero | exact MUp.zero | exact MAt.last | exact MUp.last
  | (apply MAt.cons; walk_at "m") | (apply MUp.cons; walk_at "m")
  | (apply MAt.app; walk_at "m") | (apply MUp.app; walk_at "m")
  | assumption)
local macro_rules | `(tactic| walk_at "s1") => `(tactic| with_reducible first
  | refine sw_seq ?_ | refine sw_next ?_ | refine sw_ret ?_ | refine sw_retN ?_ | refine sw_asg ?_ | refine sw_asgG ?_ | refine sw_drop ?_ | refine sw_break ?_ | refine sw_cont ?_ | refine sw_par ?_ | refine sw_par3 ?_
  | refine tw_test ?_ | refine tw_B ?_ | refine tw_and ?_ | refine tw_or ?_ | refine tw_not ?_ | refine tw_yes ?_
  | refine ew_op ?_ | refine ew_un ?_ | refine ew_int ?_ | refine ew_non ?_ | refine ew_bl ?_ | refine ew_str ?_ | refine ew_ty ?_ | refine ew_ref ?_ | refine ew_cb ?_ | refine ew_if ?_ | refine ew_andV ?_ | refine ew_orV ?_ | refine ew_notV ?_ | refine ew_chain ?_ | refine ew_sl ?_ | refine pw_no ?_ | refine pw_part ?_
  | refine ew_call0 ?_ | refine ew_kw0 ?_
  | refine aw_nil ?_ | refine aw_cons ?_ | refine ew_bm ?_ | refine ew_bm0 ?_ | refine gs_L ?_
  | refine gs_nil ?_ | refine gs_cons ?_ | refine gw_name ?_
  | refine ow_addI ?_ | refine ow_odd ?_ | refine ow_i0 ?_ | refine ow_b0 ?_ | refine oq_eqI ?_ | refine oq_neI ?_ | refine oq_eqS ?_ | refine oq_neS ?_ | refine ow_isN ?_ | refine ow_notN ?_ | refine uw_neg ?_ | refine cw_int ?_ | refine cw_intB ?_ | refine cw_abs ?_ | refine cw_mx2 ?_ | refine cw_mn2 ?_ | refine cw_lenL ?_ | refine cw_lenR ?_ | refine cw_listL ?_ | refine cw_listT ?_ | refine lw_L ?_ | refine ew_revL ?_)
local macro_rules | `(tactic| walk_at "s2") => `(tactic| first
  | ((with_reducible refine' ew_var ?hv ?_); (case hv => exact rfl))
  | ((with_reducible refine' oi_M ?hm ?hi ?_); (case hm => walk_at "m"); (case hi => exact rfl))
  | ((with_reducible refine' ow_ixT ?hi ?_); (case hi => exact rfl))
  | ((with_reducible refine' cl_M ?hm ?_); (case hm => walk_at "m"))
  | ((with_reducible refine' ci_M ?hm ?_); (case hm => walk_at "m"))
  | ((with_reducible refine' ma_app ?hm ?ll ?_); (case hm => walk_at "m"); (case ll => walk_at "l"))
  | ((with_reducible refine' And.intro (ty_A ?hm) ?_); (case hm => walk_at "m"))
  | (with_reducible refine' Exists.intro _ (And.intro ?he ?_); (case he => exact rfl))
  | (with_reducible refine' Exists.intro _ (Exists.intro _ (And.intro ?he ?_)); (case he => exact rfl))
  | (with_reducible refine' Exists.intro _ (Exists.intro _ (Exists.intro _ (And.intro ?he ?_))); (case he => exact rfl))
  | ((with_reducible refine' Exists.intro _ (Exists.intro _ (Exists.intro _ (Exists.intro _ (Exists.intro _ (And.intro ?e1 (And.intro ?e2 (And.intro ?hm (And.intro ?hi ?_))))))))); (case e1 => exact rfl); (case e2 => exact rfl); (case hm => walk_at "m"); (case hi => exact rfl)))
local macro_rules | `(tactic| walk_at "l") => `(tactic| first | assumption | exact lt_sz (by omega) | exact lt_sz (by simp only [List.length_map, List.length_append, List.length_cons, List.length_nil, List.length_take, List.length_drop, List.length_range]; omega))
local macro_rules | `(tactic| walk_at "s") => `(tactic| repeat (first | walk_at "s1" | walk_at "s2"))
local macro_rules | `(tactic| walk_at "sx") => `(tactic| with_reducible first
  | refine swx_of ?_ | refine swx_seq ?_ | refine swx_drop ?_ | refine swx_asg ?_ | refine swx_ret ?_ | refine ewx_fun ?_ | refine ewx_meth ?_ | refine ewx_make ?_ | refine ewx_sub ?_)
local macro_rules | `(tactic| walk_at "s") => `(tactic| repeat (first | walk_at "s1" | walk_at "s2" | walk_at "sx"))
local macro_rules | `(tactic| walk_at "g1") => `(tactic| with_reducible first
  | refine ew_tup2 ?_ | refine ew_tup3 ?_ | refine ew_tup4 ?_ | refine ew_fldI ?_ | refine sw_fldA ?_ | refine ew_dget1 ?_ | refine ew_dget2 ?_ | refine ow_isN ?_)
local macro_rules | `(tactic| walk_at "g2") => `(tactic| first
  | ((with_reducible refine' gw_tup ?e ?_); (case e => exact rfl))
  | ((with_reducible refine' oi_L ?e ?_); (case e => exact rfl))
  | ((refine' Exists.intro _ (And.intro ?cl (And.intro ?na (And.intro ?e ?_)))); (case cl => assumption); (case na => assumption); (case e => exact rfl))
  | ((refine' Exists.intro _ (Exists.intro _ (Exists.intro _ (Exists.intro _ (And.intro ?e (And.intro ?hm (And.intro ?cl (And.intro ?na (And.intro ?l ?_))))))))); (case e => exact rfl); (case hm => walk_at "m"); (case cl => assumption); (case na => assumption); (case l => exact Nat.le_of_ble_eq_true rfl)))
local macro_rules | `(tactic| walk_at "g") => `(tactic| repeat (first | walk_at "s1" | walk_at "s2" | walk_at "sx" | walk_at "g1" | walk_at "g2"))

section
variable {P : Program} {w : World} {K : PySem.W.Frag} {mg : Str → Option Value} {base : Heap} {a : Ads}
/-! ### tables with one change -/
def BigB (t : Option Int) : Prop := ∀ a, t = some a → a.natAbs < 10 ^ 26
/-- names, some of them perhaps alike, and a table -/
structure Cand (ws : List Str) (T : Tab) : Prop where
  ok : TabOk T
  wid : ∀ r ∈ T, r.length = ws.length
  nm : ∀ x ∈ ws, nameB x = true
  tl : T.length ≤ 26
  wl : ws.length ≤ 10
  ans : ∀ r ∈ T, ∀ s ∈ r, BigB s.2
theorem Cand.svi {ws T} (h : Cand ws T) (nd : ws.Nodup) : SvcIn ws T := ⟨h.ok, h.wid, h.nm, nd, by have := h.tl; omega, by have := h.wl; omega⟩
/-- one step of a table exchanged -/
def setS (T : Tab) (i j : Nat) (p : Step) : Tab := T.set i ((T.getD i []).set j p)
theorem Cand.step {ws T} (h : Cand ws T) {i j : Nat} {p : Step} (hp : p.1 < T.length) (hb : BigB p.2) : Cand ws (setS T i j p) := by
  by_cases hi : i < T.length
  · have e : T.getD i [] = T[i] := by rw [List.getD_eq_getElem?_getD, List.getElem?_eq_getElem hi]; rfl
    have hm : T[i] ∈ T := List.getElem_mem hi
    have rows : ∀ r ∈ setS T i j p, r ∈ T ∨ r = (T[i]).set j p := fun r hr => by
      unfold setS at hr
      rw [e] at hr
      exact List.mem_or_eq_of_mem_set hr
    have ln : (setS T i j p).length = T.length := by unfold setS; rw [List.length_set]
    refine ⟨⟨by rw [ln]; exact h.ok.pos, fun r hr s hs => ?_⟩, fun r hr => ?_, h.nm, by rw [ln]; exact h.tl, h.wl, fun r hr s hs => ?_⟩
    · rw [ln]
      rcases rows r hr with q | rfl
      · exact h.ok.lt r q s hs
      · rcases List.mem_or_eq_of_mem_set hs with q | rfl
        · exact h.ok.lt _ hm s q
        · exact hp
    · rcases rows r hr with q | rfl
      · exact h.wid r q
      · rw [List.length_set]; exact h.wid _ hm
    · rcases rows r hr with q | rfl
      · exact h.ans r q s hs
      · rcases List.mem_or_eq_of_mem_set hs with q | rfl
        · exact h.ans _ hm s q
        · exact hb
  · have e : setS T i j p = T := by unfold setS; exact List.set_eq_of_length_le (by omega)
    rw [e]; exact h
theorem Cand.name {ws T} (h : Cand ws T) {j : Nat} {x : Str} (hx : nameB x = true) : Cand (ws.set j x) T := by
  refine ⟨h.ok, fun r hr => by rw [List.length_set]; exact h.wid r hr, fun y hy => ?_, h.tl, by rw [List.length_set]; exact h.wl, h.ans⟩
  rcases List.mem_or_eq_of_mem_set hy with q | rfl
  · exact h.nm y q
  · exact hx
/-- each row by a function that keeps its steps -/
theorem Cand.rows {ws ws' T} (h : Cand ws T) (f : List Step → List Step) (hf : ∀ r, ∀ s ∈ f r, s ∈ r) (hl : ∀ r ∈ T, (f r).length = ws'.length) (hw : ∀ x ∈ ws', x ∈ ws) (hn : ws'.length ≤ 10) : Cand ws' (T.map f) := by
  refine ⟨⟨by rw [List.length_map]; exact h.ok.pos, fun r hr s hs => ?_⟩, fun r hr => ?_, fun x hx => h.nm x (hw x hx), by rw [List.length_map]; exact h.tl, hn, fun r hr s hs => ?_⟩
  · obtain ⟨r0, h0, rfl⟩ := List.mem_map.mp hr
    rw [List.length_map]
    exact h.ok.lt r0 h0 s (hf r0 s hs)
  · obtain ⟨r0, h0, rfl⟩ := List.mem_map.mp hr
    exact hl r0 h0
  · obtain ⟨r0, h0, rfl⟩ := List.mem_map.mp hr
    exact h.ans r0 h0 s (hf r0 s hs)
def turn {α : Type} (k : Nat) (r : List α) : List α := r.drop k ++ r.take k
theorem turn_len {α : Type} (k : Nat) (r : List α) : (turn k r).length = r.length := by
  unfold turn
  rw [List.length_append, List.length_drop, List.length_take]
  omega
theorem turn_mem {α : Type} {k : Nat} {r : List α} {x : α} (h : x ∈ turn k r) : x ∈ r := by
  unfold turn at h
  rcases List.mem_append.mp h with q | q
  · exact List.mem_of_mem_drop q
  · exact List.mem_of_mem_take q
theorem Cand.turned {ws T} (h : Cand ws T) (k : Nat) : Cand ws (T.map (turn k)) := h.rows (turn k) (fun _ _ q => turn_mem q) (fun r hr => by rw [turn_len]; exact h.wid r hr) (fun _ q => q) h.wl
theorem Cand.names {ws T} (h : Cand ws T) (k : Nat) : Cand (turn k ws) T :=
  ⟨h.ok, fun r hr => by rw [turn_len]; exact h.wid r hr, fun x hx => h.nm x (turn_mem hx), h.tl, by rw [turn_len]; exact h.wl, h.ans⟩
/-- without one call -/
def less {α : Type} (j : Nat) (r : List α) : List α := r.take j ++ r.drop (j + 1)
theorem less_len {α : Type} {j : Nat} {r : List α} (h : j < r.length) : (less j r).length = r.length - 1 := by
  unfold less
  rw [List.length_append, List.length_drop, List.length_take]
  omega
theorem less_mem {α : Type} {j : Nat} {r : List α} {x : α} (h : x ∈ less j r) : x ∈ r := by
  unfold less at h
  rcases List.mem_append.mp h with q | q
  · exact List.mem_of_mem_take q
  · exact List.mem_of_mem_drop q
theorem less_erase {α : Type} (j : Nat) (r : List α) : less j r = r.eraseIdx j := (List.eraseIdx_eq_take_drop_succ r j).symm
theorem Cand.less {ws T} (h : Cand ws T) {j : Nat} (hj : j < ws.length) : Cand (less j ws) (T.map (less j)) :=
  h.rows (DL.less j) (fun _ _ q => less_mem q) (fun r hr => by rw [less_len (by rw [h.wid r hr]; exact hj), less_len hj, h.wid r hr]) (fun _ q => less_mem q) (by rw [less_len hj]; have := h.wl; omega)
/-- a state more that is never reached -/
theorem Cand.more {ws T} (h : Cand ws T) (hT : T.length ≤ 25) {i : Nat} (hi : i < T.length) : Cand ws (T ++ [ws.map fun _ => (i, some 5)]) := by
  refine ⟨⟨by rw [List.length_append, List.length_singleton]; omega, fun r hr s hs => ?_⟩, fun r hr => ?_, h.nm, by rw [List.length_append, List.length_singleton]; omega, h.wl, fun r hr s hs => ?_⟩
  · rw [List.length_append, List.length_singleton]
    rcases List.mem_append.mp hr with q | q
    · have := h.ok.lt r q s hs; omega
    · rw [List.mem_singleton] at q
      subst q
      obtain ⟨x, _, rfl⟩ := List.mem_map.mp hs
      show i < _
      omega
  · rcases List.mem_append.mp hr with q | q
    · exact h.wid r q
    · rw [List.mem_singleton] at q
      subst q
      rw [List.length_map]
  · rcases List.mem_append.mp hr with q | q
    · exact h.ans r q s hs
    · rw [List.mem_singleton] at q
      subst q
      obtain ⟨x, _, rfl⟩ := List.mem_map.mp hs
      intro a e
      cases e
      decide

end
end DL

set_option Elab.async false
set_option linter.all false
set_option maxRecDepth 100000
set_option maxHeartbeats 4000000
set_option autoImplicit false
namespace DL
open PySem PySem.Spec PyProof.Rows L2
local macro_rules | `(tactic| walk_at "m") => `(tactic| first
  | with_reducible exact MAt.last | with_reducible exact MUp.last
  | exact MAt.zero | exact MUp.zero | exact MAt.last | exact MUp.last
  | (apply MAt.cons; walk_at "m") | (apply MUp.cons; walk_at "m")
  | (apply MAt.app; walk_at "m") | (apply MUp.app; walk_at "m")
  | assumption)
local macro_rules | `(tactic| walk_at "s1") => `(tactic| with_reducible first
  | refine sw_seq ?_ | refine sw_next ?_ | refine sw_ret ?_ | refine sw_retN ?_ | refine sw_asg ?_ | refine sw_asgG ?_ | refine sw_drop ?_ | refine sw_break ?_ | refine sw_cont ?_ | refine sw_par ?_ | refine sw_par3 ?_
  | refine tw_test ?_ | refine tw_B ?_ | refine tw_and ?_ | refine tw_or ?_ | refine tw_not ?_ | refine tw_yes ?_
  | refine ew_op ?_ | refine ew_un ?_ | refine ew_int ?_ | refine ew_non ?_ | refine ew_bl ?_ | refine ew_str ?_ | refine ew_ty ?_ | refine ew_ref ?_ | refine ew_cb ?_ | refine ew_if ?_ | refine ew_andV ?_ | refine ew_orV ?_ | refine ew_notV ?_ | refine ew_chain ?_ | refine ew_sl ?_ | refine pw_no ?_ | refine pw_part ?_
  | refine ew_call0 ?_ | refine ew_kw0 ?_
  | refine aw_nil ?_ | refine aw_cons ?_ | refine ew_bm ?_ | refine ew_bm0 ?_ | refine gs_L ?_
  | refine gs_nil ?_ | refine gs_cons ?_ | refine gw_name ?_
  | refine ow_addI ?_ | refine ow_odd ?_ | refine ow_i0 ?_ | refine ow_b0 ?_ | refine oq_eqI ?_ | refine oq_neI ?_ | refine oq_eqS ?_ | refine oq_neS ?_ | refine ow_isN ?_ | refine ow_notN ?_ | refine uw_neg ?_ | refine cw_int ?_ | refine cw_intB ?_ | refine cw_abs ?_ | refine cw_mx2 ?_ | refine cw_mn2 ?_ | refine cw_lenL ?_ | refine cw_lenR ?_ | refine cw_listL ?_ | refine cw_listT ?_ | refine lw_L ?_ | refine ew_revL ?_)
local macro_rules | `(tactic| walk_at "s2") => `(tactic| first
  | ((with_reducible refine' ew_var ?hv ?_); (case hv => exact rfl))
  | ((with_reducible refine' oi_M ?hm ?hi ?_); (case hm => walk_at "m"); (case hi => exact rfl))
  | ((with_reducible refine' ow_ixT ?hi ?_); (case hi => exact rfl))
  | ((with_reducible refine' cl_M ?hm ?_); (case hm => walk_at "m"))
  | ((with_reducible refine' ci_M ?hm ?_); (case hm => walk_at "m"))
  | ((with_reducible refine' ma_app ?hm ?ll ?_); (case hm => walk_at "m"); (case ll => walk_at "l"))
  | ((with_reducible refine' And.intro (ty_A ?hm) ?_); (case hm => walk_at "m"))
  | (with_reducible refine' Exists.intro _ (And.intro ?he ?_); (case he => exact rfl))
  | (with_reducible refine' Exists.intro _ (Exists.intro _ (And.intro ?he ?_)); (case he => exact rfl))
  | (with_reducible refine' Exists.intro _ (Exists.intro _ (Exists.intro _ (And.intro ?he ?_))); (case he => exact rfl))
  | ((with_reducible refine' Exists.intro _ (Exists.intro _ (Exists.intro _ (Exists.intro _ (Exists.intro _ (And.intro ?e1 (And.intro ?e2 (And.intro ?hm (And.intro ?hi ?_))))))))); (case e1 => exact rfl); (case e2 => exact rfl); (case hm => walk_at "m"); (case hi => exact rfl)))
local macro_rules | `(tactic| walk_at "l") => `(tactic| first | assumption | exact lt_sz (by omega) | exact lt_sz (by simp only [List.length_map, List.length_append, List.length_cons, List.length_nil, List.length_take, List.length_drop, List.length_range]; omega))
local macro_rules | `(tactic| walk_at "s") => `(tactic| repeat (first | walk_at "s1" | walk_at "s2"))
local macro_rules | `(tactic| walk_at "sx") => `(tactic| with_reducible first
  | refine swx_of ?_ | refine swx_seq ?_ | refine swx_drop ?_ | refine swx_asg ?_ | refine swx_ret ?_ | refine ewx_fun ?_ | refine ewx_meth ?_ | refine ewx_make ?_ | refine ewx_sub ?_)
local macro_rules | `(tactic| walk_at "s") => `(tactic| repeat (first | walk_at "s1" | walk_at "s2" | walk_at "sx"))
local macro_rules | `(tactic| walk_at "g1") => `(tactic| with_reducible first
  | refine ew_tup2 ?_ | refine ew_tup3 ?_ | refine ew_tup4 ?_ | refine ew_fldI ?_ | refine sw_fldA ?_ | refine ew_dget1 ?_ | refine ew_dget2 ?_ | refine ow_isN ?_)
local macro_rules | `(tactic| walk_at "g2") => `(tactic| first
  | ((with_reducible refine' gw_tup ?e ?_); (case e => exact rfl))
  | ((with_reducible refine' oi_L ?e ?_); (case e => exact rfl))
  | ((refine' Exists.intro _ (And.intro ?cl (And.intro ?na (And.intro ?e ?_)))); (case cl => assumption); (case na => assumption); (case e => exact rfl))
  | ((refine' Exists.intro _ (Exists.intro _ (Exists.intro _ (Exists.intro _ (And.intro ?e (And.intro ?hm (And.intro ?cl (And.intro ?na (And.intro ?l ?_))))))))); (case e => exact rfl); (case hm => walk_at "m"); (case cl => assumption); (case na => assumption); (case l => exact Nat.le_of_ble_eq_true rfl)))
local macro_rules | `(tactic| walk_at "g") => `(tactic| repeat (first | walk_at "s1" | walk_at "s2" | walk_at "sx" | walk_at "g1" | walk_at "g2"))

section
variable {P : Program} {w : World} {K : PySem.W.Frag} {mg : Str → Option Value} {base : Heap} {a : Ads}
/-! ### a name with a letter behind it, cut to eight; lists of cells walked over -/
theorem nameQ {w : Str} (h : nameB w = true) : nameB (cutS (w ++ ("q" : Str)) (some (-8)) none) = true := by
  have h8 := nameB_len h
  have h2 := h
  unfold nameB at h2
  rw [Bool.and_eq_true, Bool.and_eq_true] at h2
  have h1 : 1 ≤ w.length := of_decide_eq_true h2.1.1
  have hc : ∀ c ∈ w.cps.toList, c ∈ LET.cps.toList := fun c hc => of_decide_eq_true (List.all_eq_true.mp h2.2 c hc)
  have e : (w ++ ("q" : Str)).cps.toList = w.cps.toList ++ [113] := by rw [app_cps]; rfl
  have hl : w.cps.toList.length = w.length := by simp [Str.length]
  have hn : (w ++ ("q" : Str)).length = w.length + 1 := by
    have : (w ++ ("q" : Str)).length = (w ++ ("q" : Str)).cps.toList.length := by simp [Str.length]
    rw [this, e, List.length_append, hl]
    rfl
  have ex : (cutS (w ++ ("q" : Str)) (some (-8)) none).cps.toList = (w.cps.toList ++ [113]).drop (w.length + 1 - 8) := by
    unfold cutS
    rw [HT.sIx_none, hn, e]
    have es : HT.sIx (w.length + 1) 0 (some (-8)) = w.length + 1 - 8 := by
      show (if (-8 : Int) < 0 then ((-8 : Int) + ((w.length + 1 : Nat) : Int)).toNat else min (-8 : Int).toNat (w.length + 1)) = _
      rw [if_pos (by decide)]
      omega
    rw [es, List.toList_toArray]
    exact List.take_of_length_le (by rw [List.length_drop, List.length_append, hl, List.length_singleton]; omega)
  refine name_of ex ?_ ?_ fun c hc2 => ?_
  · rw [List.length_drop, List.length_append, hl, List.length_singleton]; omega
  · rw [List.length_drop, List.length_append, hl, List.length_singleton]; omega
  · rcases List.mem_append.mp (List.mem_of_mem_drop hc2) with q | q
    · exact hc c q
    · rw [List.mem_singleton] at q
      subst q
      decide +kernel
theorem app_q_len (w : Str) : (w ++ ("q" : Str)).length = w.length + 1 := by
  have : (w ++ ("q" : Str)).length = (w ++ ("q" : Str)).cps.toList.length := by simp [Str.length]
  rw [this, app_cps, List.length_append]
  show w.cps.toList.length + 1 = w.cps.size + 1
  rw [Array.length_toList]
theorem zip_f1 {zs : List Addr} {T : Tab} (h : zs.length = T.length) : (zs.zip T).map (fun q => D.adr q.1) = zs.map D.adr := by
  rw [show (fun q : Addr × List Step => D.adr q.1) = D.adr ∘ Prod.fst from rfl, ← List.map_map, List.map_fst_zip (by omega)]
theorem zip_f2 {zs : List Addr} {T : Tab} (h : zs.length = T.length) (F : List Step → D) : (zs.zip T).map (fun q => F q.2) = T.map F := by
  rw [show (fun q : Addr × List Step => F q.2) = F ∘ Prod.snd from rfl, ← List.map_map, List.map_snd_zip (by omega)]
theorem ew_lcRow {K : PySem.W.Frag} {δ : List (Option D)} {m : Mem} {Q : D → Mem → Prop} {te tl : TE} {tt : TT} {g : TG} {vs : List Nat} (tm : Tame g vs) (G : List Step → D)
    (h : EW K tl δ m fun x m1 => ∃ (z : Addr) (zs : List Addr) (T : Tab), zs.length = T.length ∧ x = .adr z ∧ MAt m1 z (.lst (zs.map .adr)) ∧ T.length ≤ 1000 ∧ (∀ q ∈ zs.zip T, MAt m1 q.1 (.lst (q.2.map stepD))) ∧
      (∀ (za : Addr) (r : List Step) (acc : List D) (zz : Addr), r ∈ T → MAt (m1 ++ [(zz, .lst acc)]) za (.lst (r.map stepD)) → GW K g (.adr za) (wipeD δ vs) (m1 ++ [(zz, .lst acc)]) fun δ2 m2 => TW K tt δ2 m2 fun b m3 => b = true ∧ EW K te δ2 m3 fun y m4 => y = G r ∧ m4 = m1 ++ [(zz, .lst acc)]) ∧
      ∀ zz, Q (.adr zz) (m1 ++ [(zz, .lst (T.map G))])) : EW K (tLc (iAny K tl) g tt te vs) δ m Q := by
  refine ew_lcQ tm fun σ H s M QQ k => h σ H s M QQ fun x m1 v H1 ⟨z, zs, T, hl, ex, hz, hs, hc, st, q⟩ => k x m1 v H1 ⟨Addr × List Step, zs.zip T, fun q => .adr q.1, ?_, fun j acc m' => acc = ((zs.zip T).take j).map (fun q => G q.2) ∧ m' = m1, ⟨rfl, rfl⟩, ?_, ?_, ?_⟩
  · subst ex
    rw [zip_f1 hl]
    exact .at_ hz
  · rintro j acc m' ⟨_, rfl⟩
    subst ex
    rw [zip_f1 hl]
    exact .at_ hz
  · rintro j y acc m' zz hj ⟨rfl, rfl⟩
    have hm := List.mem_of_getElem? hj
    have hlt := (List.getElem?_eq_some_iff.mp hj).1
    refine ⟨Nat.lt_of_le_of_lt (by rw [List.length_map, List.length_take]; exact Nat.min_le_left _ _) (Nat.lt_of_lt_of_le hlt (by rw [List.length_zip]; exact le_sz (by omega))), ?_⟩
    refine fun σ H v s M r QQ k => st y.1 y.2 _ zz (List.of_mem_zip hm).2 (hc y hm).app σ H v s M r QQ fun δ' m' σ' H' q => k δ' m' σ' H' fun σ H s M QQ k => q σ H s M QQ fun b m2 H2 q => k b m2 H2 ?_
    obtain ⟨rfl, q⟩ := q
    rw [if_pos rfl]
    refine fun σ H s M QQ k => q σ H s M QQ fun y m4 v4 H4 q => k y m4 v4 H4 ?_
    obtain ⟨rfl, rfl⟩ := q
    refine ⟨_, rfl, ?_, rfl⟩
    rw [List.take_add_one, hj, List.map_append]
    rfl
  · rintro acc m' zz ⟨rfl, rfl⟩
    rw [List.take_length, zip_f2 hl]
    exact q zz
theorem six_at {j n : Nat} (h : j < n) : seqIndex? (j : Int) n = some j := by
  have h1 : ¬ ((j : Int) < 0) := by omega
  have h2 : (j : Int) < (n : Int) := by omega
  simp [seqIndex?, h1, h]
theorem mw_popAt {K : PySem.W.Frag} {m m' : Mem} {Q : D → Mem → Prop} {p : Addr} {ds : List D} {j : Nat} {d : D} (hm : MUp m p (.lst ds) (.lst (ds.eraseIdx j)) m') (e : ds[j]? = some d) (hl : ds.length ≤ 1000) (q : Q d m') : MW K rPopAt (.adr p) [.int (j : Nat)] m Q := fun H v vs M a b QQ k => by
  obtain ⟨i, hm, em⟩ := hm
  subst em
  cases a
  cases b with
  | cons b1 b2 =>
    cases b1
    cases b2
    obtain ⟨xs, ex, r⟩ := cell_at M hm
    obtain ⟨y, hy, ry⟩ := r.get e
    have hj := (List.getElem?_eq_some_iff.mp e).1
    have rd : RdL K (hide m H) (xs.eraseIdx j) (ds.eraseIdx j) := by
      rw [List.eraseIdx_eq_take_drop_succ, List.eraseIdx_eq_take_drop_succ]
      exact (r.take _).append (r.drop _)
    obtain ⟨M2, s2⟩ := set_cell (c' := .lst (ds.eraseIdx j)) (o := .lst (xs.eraseIdx j)) M hm ⟨_, upd_same, rd⟩
    have hx : xs.length = ds.length := r.length
    exact ⟨p, xs, (j : Nat), j, y, rfl, rfl, ex, by omega, by omega, by rw [hx]; exact six_at hj, hy, k d _ y _ q s2 M2 (ry.mono s2)⟩

end
end DL

set_option Elab.async false
set_option linter.all false
set_option maxRecDepth 100000
set_option maxHeartbeats 4000000
set_option autoImplicit false
namespace DL
open PySem PySem.Spec PyProof.Rows L2
local macro_rules | `(tactic| walk_at "m") => `(tactic| first
  | with_reducible exact MAt.last | with_reducible exact MUp.last
  | exact MAt.zero | exact MUp.zero | exact MAt.last | exact MUp.last
  | (apply MAt.cons; walk_at "m") | (apply MUp.cons; walk_at "m")
  | (apply MAt.app; walk_at "m") | (apply MUp.app; walk_at "m")
  | assumption)
local macro_rules | `(tactic| walk_at "s1") => `(tactic| with_reducible first
  | refine sw_seq ?_ | refine sw_next ?_ | refine sw_ret ?_ | refine sw_retN ?_ | refine sw_asg ?_ | refine sw_asgG ?_ | refine sw_drop ?_ | refine sw_break ?_ | refine sw_cont ?_ | refine sw_par ?_ | refine sw_par3 ?_
  | refine tw_test ?_ | refine tw_B ?_ | refine tw_and ?_ | refine tw_or ?_ | refine tw_not ?_ | refine tw_yes ?_
  | refine ew_op ?_ | refine ew_un ?_ | refine ew_int ?_ | refine ew_non ?_ | refine ew_bl ?_ | refine ew_str ?_ | refine ew_ty ?_ | refine ew_ref ?_ | refine ew_cb ?_ | refine ew_if ?_ | refine ew_andV ?_ | refine ew_orV ?_ | refine ew_notV ?_ | refine ew_chain ?_ | refine ew_sl ?_ | refine pw_no ?_ | refine pw_part ?_
  | refine ew_call0 ?_ | refine ew_kw0 ?_
  | refine aw_nil ?_ | refine aw_cons ?_ | refine ew_bm ?_ | refine ew_bm0 ?_ | refine gs_L ?_
  | refine gs_nil ?_ | refine gs_cons ?_ | refine gw_name ?_
  | refine ow_addI ?_ | refine ow_odd ?_ | refine ow_i0 ?_ | refine ow_b0 ?_ | refine oq_eqI ?_ | refine oq_neI ?_ | refine oq_eqS ?_ | refine oq_neS ?_ | refine ow_isN ?_ | refine ow_notN ?_ | refine uw_neg ?_ | refine cw_int ?_ | refine cw_intB ?_ | refine cw_abs ?_ | refine cw_mx2 ?_ | refine cw_mn2 ?_ | refine cw_lenL ?_ | refine cw_lenR ?_ | refine cw_listL ?_ | refine cw_listT ?_ | refine lw_L ?_ | refine ew_revL ?_)
local macro_rules | `(tactic| walk_at "s2") => `(tactic| first
  | ((with_reducible refine' ew_var ?hv ?_); (case hv => exact rfl))
  | ((with_reducible refine' oi_M ?hm ?hi ?_); (case hm => walk_at "m"); (case hi => exact rfl))
  | ((with_reducible refine' ow_ixT ?hi ?_); (case hi => exact rfl))
  | ((with_reducible refine' cl_M ?hm ?_); (case hm => walk_at "m"))
  | ((with_reducible refine' ci_M ?hm ?_); (case hm => walk_at "m"))
  | ((with_reducible refine' ma_app ?hm ?ll ?_); (case hm => walk_at "m"); (case ll => walk_at "l"))
  | ((with_reducible refine' And.intro (ty_A ?hm) ?_); (case hm => walk_at "m"))
  | (with_reducible refine' Exists.intro _ (And.intro ?he ?_); (case he => exact rfl))
  | (with_reducible refine' Exists.intro _ (Exists.intro _ (And.intro ?he ?_)); (case he => exact rfl))
  | (with_reducible refine' Exists.intro _ (Exists.intro _ (Exists.intro _ (And.intro ?he ?_))); (case he => exact rfl))
  | ((with_reducible refine' Exists.intro _ (Exists.intro _ (Exists.intro _ (Exists.intro _ (Exists.intro _ (And.intro ?e1 (And.intro ?e2 (And.intro ?hm (And.intro ?hi ?_))))))))); (case e1 => exact rfl); (case e2 => exact rfl); (case hm => walk_at "m"); (case hi => exact rfl)))
local macro_rules | `(tactic| walk_at "l") => `(tactic| first | assumption | exact lt_sz (by omega) | exact lt_sz (by simp only [List.length_map, List.length_append, List.length_cons, List.length_nil, List.length_take, List.length_drop, List.length_range]; omega))
local macro_rules | `(tactic| walk_at "s") => `(tactic| repeat (first | walk_at "s1" | walk_at "s2"))
local macro_rules | `(tactic| walk_at "sx") => `(tactic| with_reducible first
  | refine swx_of ?_ | refine swx_seq ?_ | refine swx_drop ?_ | refine swx_asg ?_ | refine swx_ret ?_ | refine ewx_fun ?_ | refine ewx_meth ?_ | refine ewx_make ?_ | refine ewx_sub ?_)
local macro_rules | `(tactic| walk_at "s") => `(tactic| repeat (first | walk_at "s1" | walk_at "s2" | walk_at "sx"))
local macro_rules | `(tactic| walk_at "g1") => `(tactic| with_reducible first
  | refine ew_tup2 ?_ | refine ew_tup3 ?_ | refine ew_tup4 ?_ | refine ew_fldI ?_ | refine sw_fldA ?_ | refine ew_dget1 ?_ | refine ew_dget2 ?_ | refine ow_isN ?_)
local macro_rules | `(tactic| walk_at "g2") => `(tactic| first
  | ((with_reducible refine' gw_tup ?e ?_); (case e => exact rfl))
  | ((with_reducible refine' oi_L ?e ?_); (case e => exact rfl))
  | ((refine' Exists.intro _ (And.intro ?cl (And.intro ?na (And.intro ?e ?_)))); (case cl => assumption); (case na => assumption); (case e => exact rfl))
  | ((refine' Exists.intro _ (Exists.intro _ (Exists.intro _ (Exists.intro _ (And.intro ?e (And.intro ?hm (And.intro ?cl (And.intro ?na (And.intro ?l ?_))))))))); (case e => exact rfl); (case hm => walk_at "m"); (case cl => assumption); (case na => assumption); (case l => exact Nat.le_of_ble_eq_true rfl)))
local macro_rules | `(tactic| walk_at "g") => `(tactic| repeat (first | walk_at "s1" | walk_at "s2" | walk_at "sx" | walk_at "g1" | walk_at "g2"))

section
variable {P : Program} {w : World} {K : PySem.W.Frag} {mg : Str → Option Value} {base : Heap} {a : Ads}
/-! ### lists of new lists, as cells; lent as data -/
theorem MUp.pre {a b b' : Mem} {p : Addr} {c c' : Cell} (h : MUp b p c c' b') : MUp (a ++ b) p c c' (a ++ b') := by
  obtain ⟨i, h1, rfl⟩ := h
  refine ⟨a.length + i, ?_, ?_⟩
  · rw [List.getElem?_append_right (by omega), Nat.add_sub_cancel_left]
    exact h1
  · rw [List.set_append_right _ _ (by omega), Nat.add_sub_cancel_left]
theorem MAt.pre {a b : Mem} {p : Addr} {c : Cell} (h : MAt b p c) : MAt (a ++ b) p c := by
  obtain ⟨i, h1⟩ := h
  refine ⟨a.length + i, ?_⟩
  rw [List.getElem?_append_right (by omega), Nat.add_sub_cancel_left]
  exact h1
theorem MAt.of_mem {m : Mem} {x : Addr × Cell} (h : x ∈ m) : MAt m x.1 x.2 := List.mem_iff_getElem?.mp h
section
variable {α : Type} {f : α → D}
abbrev lstF (f : α → D) (r : List α) : D := .lst (r.map f)
abbrev cellF (f : α → D) (z : Addr) (r : List α) : Addr × Cell := (z, .lst (r.map f))
def cellsF (f : α → D) (zs : List Addr) (G : List (List α)) : Mem := List.zipWith (cellF f) zs G
theorem cellsF_snoc {zs : List Addr} {G : List (List α)} (h : zs.length = G.length) (z r) : cellsF f (zs ++ [z]) (G ++ [r]) = cellsF f zs G ++ [cellF f z r] := by unfold cellsF; rw [List.zipWith_append h]; rfl
theorem cellsF_at {zs : List Addr} {G : List (List α)} {j : Nat} {z : Addr} {r : List α} (hz : zs[j]? = some z) (hr : G[j]? = some r) : (cellsF f zs G)[j]? = some (cellF f z r) := by
  unfold cellsF
  rw [List.getElem?_zipWith, hz, hr]
theorem cellsF_up {zs : List Addr} {G : List (List α)} {j : Nat} {z : Addr} {r : List α} (hz : zs[j]? = some z) (hr : G[j]? = some r) (r' : List α) : MUp (cellsF f zs G) z (.lst (r.map f)) (.lst (r'.map f)) (cellsF f zs (G.set j r')) := by
  refine ⟨j, cellsF_at hz hr, ?_⟩
  refine List.ext_getElem? fun i => ?_
  unfold cellsF
  rw [List.getElem?_set, List.getElem?_zipWith, List.getElem?_zipWith, List.getElem?_set]
  have hj := (List.getElem?_eq_some_iff.mp hr).1
  have hjz := (List.getElem?_eq_some_iff.mp hz).1
  by_cases e : j = i
  · subst e
    rw [if_pos rfl, if_pos rfl, if_pos hj, if_pos (by rw [List.length_zipWith]; omega), hz]
  · rw [if_neg e, if_neg e]
/-- [list(row) for row in rows] : a list of new cells -/
theorem ew_cellsF {K : PySem.W.Frag} {δ : List (Option D)} {m : Mem} {Q : D → Mem → Prop} {te : TE} {tt : TT} {g : TG} {wi : TI} {vs : List Nat} (f : α → D) (tm : Tame g vs) (h : IW K wi δ m fun ds m1 => ∃ G : List (List α), ds = G.map (lstF f) ∧ G.length ≤ sizeLine ∧
      (∀ (b : List α) (acc : List D) (m' : Mem) (z : Addr), b ∈ G → GW K g (lstF f b) (wipeD δ vs) (m' ++ [(z, .lst acc)]) fun δ2 m2 => TW K tt δ2 m2 fun c m3 => c = true ∧ EW K te δ2 m3 fun y m4 => ∃ z2, y = .adr z2 ∧ m4 = m' ++ [(z, .lst acc)] ++ [(z2, .lst (b.map f))]) ∧
      ∀ (zs : List Addr) (z : Addr), zs.length = G.length → Q (.adr z) (m1 ++ cellsF f zs G ++ [(z, .lst (zs.map .adr))])) : EW K (tLc wi g tt te vs) δ m Q := by
  refine ew_lcM tm fun σ H s M QQ k => h σ H s M QQ fun J H1 m1 ds ⟨G, ed, hl, st, q⟩ => k J H1 m1 ds ⟨fun j acc m' => ∃ zs : List Addr, zs.length = (G.take j).length ∧ acc = zs.map .adr ∧ m' = m1 ++ cellsF f zs (G.take j), ⟨[], rfl, rfl, by show m1 = m1 ++ []; rw [List.append_nil]⟩, ?_, ?_⟩
  · rintro j d acc m' z hj ⟨zs, hz, rfl, rfl⟩
    subst ed
    obtain ⟨b, hb, rfl⟩ : ∃ b, G[j]? = some b ∧ lstF f b = d := by
      rw [List.getElem?_map] at hj
      cases c : G[j]? with
      | none => rw [c] at hj; cases hj
      | some b => rw [c] at hj; injection hj with hj; exact ⟨b, rfl, hj⟩
    have hlt := (List.getElem?_eq_some_iff.mp hb).1
    have et : G.take (j + 1) = G.take j ++ [b] := by rw [List.take_add_one, hb]; rfl
    have hz2 := hz
    rw [List.length_take] at hz2
    refine ⟨by rw [List.length_map]; omega, ?_⟩
    refine fun σ H v s M r QQ k => st b _ _ z (List.mem_of_getElem? hb) σ H v s M r QQ fun δ' m' σ' H' q => k δ' m' σ' H' fun σ H s M QQ k => q σ H s M QQ fun c m2 H2 q => k c m2 H2 ?_
    obtain ⟨hc, q⟩ := q
    rw [if_pos hc]
    refine ew_perm (fun σ H s M QQ k => q σ H s M QQ fun y m4 v4 H4 q => k y m4 v4 H4 ?_)
    obtain ⟨z2, rfl, rfl⟩ := q
    refine ⟨_, perm_end, m1 ++ cellsF f zs (G.take j) ++ [(z2, .lst (b.map f))], rfl, zs ++ [z2], by rw [et, List.length_append, List.length_append, hz]; rfl, by rw [List.map_append]; rfl, ?_⟩
    rw [et, cellsF_snoc hz, List.append_assoc]
  · rintro acc m' z ⟨zs, hz, rfl, rfl⟩
    subst ed
    rw [List.length_map, List.take_length] at hz ⊢
    exact q zs z hz
end
def Lends (K : PySem.W.Frag) (m0 r : Mem) (d0 d : D) : Prop := ∀ (H : Hp) (v : V), MemOk K (m0 ++ r) H → Rd K (hide (m0 ++ r) H) v d0 → Rd K (hide m0 H) v d
def LentG (K : PySem.W.Frag) (m0 r : Mem) (δ δ' : List (Option D)) : Prop := δ'.length = δ.length ∧ ∀ (i : Nat) (d : D), δ'[i]? = some (some d) → ∃ d0, δ[i]? = some (some d0) ∧ Lends K m0 r d0 d
theorem Lends.same {m0 r : Mem} {d : D} : Lends K m0 r d d := fun H v M x => x.mono (MemOk.dropG r M).2
theorem LentG.refl {m0 r : Mem} {δ : List (Option D)} : LentG K m0 r δ δ := ⟨rfl, fun _ d h => ⟨d, h, Lends.same⟩⟩
theorem LentG.set {m0 r : Mem} {δ δ' : List (Option D)} {i : Nat} {d0 d : D} (L : LentG K m0 r δ δ') (e : δ[i]? = some (some d0)) (h : Lends K m0 r d0 d) : LentG K m0 r δ (δ'.set i (some d)) := by
  refine ⟨by rw [List.length_set]; exact L.1, fun j x hx => ?_⟩
  by_cases hj : i = j
  · subst hj
    have hl : i < δ'.length := by rw [L.1]; exact (List.getElem?_eq_some_iff.mp e).1
    rw [List.getElem?_set_self hl] at hx
    cases hx
    exact ⟨d0, e, h⟩
  · rw [List.getElem?_set_ne hj] at hx
    exact L.2 j x hx
theorem LentG.sl {m0 r : Mem} {δ δ' : List (Option D)} {H : Hp} {σ : L2.St} (L : LentG K m0 r δ δ') (M : MemOk K (m0 ++ r) H) (s : Sl K (hide (m0 ++ r) H) σ δ) : Sl K (hide m0 H) σ δ' :=
  ⟨s.1.trans L.1.symm, fun i d h => let ⟨d0, e, l⟩ := L.2 i d h; let ⟨v, e1, r1⟩ := s.2 i d0 e; ⟨v, e1, l H v M r1⟩⟩
theorem Lends.cell {m0 r : Mem} {z : Addr} {c : Cell} {d : D} (hc : (z, c) ∈ r) (ec : c.d = some d) : Lends K m0 r (.adr z) d := fun H v M x => by
  cases x
  have sb := (MemOk.dropG r M).2
  have nd := M.nd
  rw [List.map_append] at nd
  refine still_of (M.at_ z c (List.mem_append_right _ hc)) ec sb (hide_out fun q => ?_)
  exact (List.nodup_append.mp nd).2.2 z q z (List.mem_map_of_mem (f := Prod.fst) hc) rfl
theorem Lends.rows {α : Type} {f : α → D} {m0 r : Mem} {H : Hp} (M : MemOk K (m0 ++ r) H) : ∀ {zs : List Addr} {G : List (List α)} {xs : List V}, zs.length = G.length → (∀ x ∈ cellsF f zs G, x ∈ r) → RdL K (hide (m0 ++ r) H) xs (zs.map .adr) → RdL K (hide m0 H) xs (G.map (lstF f))
  | [], [], _, _, _, x => by cases x; exact .nil
  | [], _ :: _, _, h, _, _ => by cases h
  | _ :: _, [], _, h, _, _ => by cases h
  | z :: zs, b :: G, xs, hl, h, x => by
    cases x with
    | cons x1 x2 =>
      refine .cons ?_ (Lends.rows M (by simpa using hl) (fun y hy => h y (List.mem_cons_of_mem (cellF f z b) hy)) x2)
      have hz : cellF f z b ∈ r := h (cellF f z b) List.mem_cons_self
      exact Lends.cell (c := .lst (b.map f)) hz rfl H _ M x1
theorem Lends.tab {α : Type} {f : α → D} {m0 r : Mem} {z : Addr} {zs : List Addr} {G : List (List α)} (hc : (z, Cell.lst (zs.map .adr)) ∈ r) (hl : zs.length = G.length) (h : ∀ x ∈ cellsF f zs G, x ∈ r) : Lends K m0 r (.adr z) (.lst (G.map (lstF f))) := fun H v M x => by
  cases x
  have nd := M.nd
  rw [List.map_append] at nd
  obtain ⟨xs, e, rr⟩ := M.at_ z _ (List.mem_append_right m0 hc)
  refine .lst ?_ (Lends.rows M hl h rr)
  rw [hide_out fun q => (List.nodup_append.mp nd).2.2 z q z (List.mem_map_of_mem (f := Prod.fst) hc) rfl]
  exact e
end
end DL

set_option Elab.async false
set_option linter.all false
set_option maxRecDepth 100000
set_option maxHeartbeats 4000000
set_option autoImplicit false
namespace DL
open PySem PySem.Spec PyProof.Rows L2
local macro_rules | `(tactic| walk_at "m") => `(tactic| first
  | with_reducible exact MAt.last | with_reducible exact MUp.last
  | exact MAt.zero | exact MUp.zero | exact MAt.last | exact MUp.last
  | (apply MAt.cons; walk_at "m") | (apply MUp.cons; walk_at "m")
  | (apply MAt.app; walk_at "m") | (apply MUp.app; walk_at "m")
  | assumption)
local macro_rules | `(tactic| walk_at "s1") => `(tactic| with_reducible first
  | refine sw_seq ?_ | refine sw_next ?_ | refine sw_ret ?_ | refine sw_retN ?_ | refine sw_asg ?_ | refine sw_asgG ?_ | refine sw_drop ?_ | refine sw_break ?_ | refine sw_cont ?_ | refine sw_par ?_ | refine sw_par3 ?_
  | refine tw_test ?_ | refine tw_B ?_ | refine tw_and ?_ | refine tw_or ?_ | refine tw_not ?_ | refine tw_yes ?_
  | refine ew_op ?_ | refine ew_un ?_ | refine ew_int ?_ | refine ew_non ?_ | refine ew_bl ?_ | refine ew_str ?_ | refine ew_ty ?_ | refine ew_ref ?_ | refine ew_cb ?_ | refine ew_if ?_ | refine ew_andV ?_ | refine ew_orV ?_ | refine ew_notV ?_ | refine ew_chain ?_ | refine ew_sl ?_ | refine pw_no ?_ | refine pw_part ?_
  | refine ew_call0 ?_ | refine ew_kw0 ?_
  | refine aw_nil ?_ | refine aw_cons ?_ | refine ew_bm ?_ | refine ew_bm0 ?_ | refine gs_L ?_
  | refine gs_nil ?_ | refine gs_cons ?_ | refine gw_name ?_
  | refine ow_addI ?_ | refine ow_odd ?_ | refine ow_i0 ?_ | refine ow_b0 ?_ | refine oq_eqI ?_ | refine oq_neI ?_ | refine oq_eqS ?_ | refine oq_neS ?_ | refine ow_isN ?_ | refine ow_notN ?_ | refine uw_neg ?_ | refine cw_int ?_ | refine cw_intB ?_ | refine cw_abs ?_ | refine cw_mx2 ?_ | refine cw_mn2 ?_ | refine cw_lenL ?_ | refine cw_lenR ?_ | refine cw_listL ?_ | refine cw_listT ?_ | refine lw_L ?_ | refine ew_revL ?_)
local macro_rules | `(tactic| walk_at "s2") => `(tactic| first
  | ((with_reducible refine' ew_var ?hv ?_); (case hv => exact rfl))
  | ((with_reducible refine' oi_M ?hm ?hi ?_); (case hm => walk_at "m"); (case hi => exact rfl))
  | ((with_reducible refine' ow_ixT ?hi ?_); (case hi => exact rfl))
  | ((with_reducible refine' cl_M ?hm ?_); (case hm => walk_at "m"))
  | ((with_reducible refine' ci_M ?hm ?_); (case hm => walk_at "m"))
  | ((with_reducible refine' ma_app ?hm ?ll ?_); (case hm => walk_at "m"); (case ll => walk_at "l"))
  | ((with_reducible refine' And.intro (ty_A ?hm) ?_); (case hm => walk_at "m"))
  | (with_reducible refine' Exists.intro _ (And.intro ?he ?_); (case he => exact rfl))
  | (with_reducible refine' Exists.intro _ (Exists.intro _ (And.intro ?he ?_)); (case he => exact rfl))
  | (with_reducible refine' Exists.intro _ (Exists.intro _ (Exists.intro _ (And.intro ?he ?_))); (case he => exact rfl))
  | ((with_reducible refine' Exists.intro _ (Exists.intro _ (Exists.intro _ (Exists.intro _ (Exists.intro _ (And.intro ?e1 (And.intro ?e2 (And.intro ?hm (And.intro ?hi ?_))))))))); (case e1 => exact rfl); (case e2 => exact rfl); (case hm => walk_at "m"); (case hi => exact rfl)))
local macro_rules | `(tactic| walk_at "l") => `(tactic| first | assumption | exact lt_sz (by omega) | exact lt_sz (by simp only [List.length_map, List.length_append, List.length_cons, List.length_nil, List.length_take, List.length_drop, List.length_range]; omega))
local macro_rules | `(tactic| walk_at "s") => `(tactic| repeat (first | walk_at "s1" | walk_at "s2"))
local macro_rules | `(tactic| walk_at "sx") => `(tactic| with_reducible first
  | refine swx_of ?_ | refine swx_seq ?_ | refine swx_drop ?_ | refine swx_asg ?_ | refine swx_ret ?_ | refine ewx_fun ?_ | refine ewx_meth ?_ | refine ewx_make ?_ | refine ewx_sub ?_)
local macro_rules | `(tactic| walk_at "s") => `(tactic| repeat (first | walk_at "s1" | walk_at "s2" | walk_at "sx"))
local macro_rules | `(tactic| walk_at "g1") => `(tactic| with_reducible first
  | refine ew_tup2 ?_ | refine ew_tup3 ?_ | refine ew_tup4 ?_ | refine ew_fldI ?_ | refine sw_fldA ?_ | refine ew_dget1 ?_ | refine ew_dget2 ?_ | refine ow_isN ?_)
local macro_rules | `(tactic| walk_at "g2") => `(tactic| first
  | ((with_reducible refine' gw_tup ?e ?_); (case e => exact rfl))
  | ((with_reducible refine' oi_L ?e ?_); (case e => exact rfl))
  | ((refine' Exists.intro _ (And.intro ?cl (And.intro ?na (And.intro ?e ?_)))); (case cl => assumption); (case na => assumption); (case e => exact rfl))
  | ((refine' Exists.intro _ (Exists.intro _ (Exists.intro _ (Exists.intro _ (And.intro ?e (And.intro ?hm (And.intro ?cl (And.intro ?na (And.intro ?l ?_))))))))); (case e => exact rfl); (case hm => walk_at "m"); (case cl => assumption); (case na => assumption); (case l => exact Nat.le_of_ble_eq_true rfl)))
local macro_rules | `(tactic| walk_at "g") => `(tactic| repeat (first | walk_at "s1" | walk_at "s2" | walk_at "sx" | walk_at "g1" | walk_at "g2"))

section
variable {P : Program} {w : World} {K : PySem.W.Frag} {mg : Str → Option Value} {base : Heap} {a : Ads}
theorem cutN_from {ds : List D} {i : Nat} (h : i ≤ ds.length) : cutD ds (some ((i : Nat) : Int)) none = ds.drop i := by
  unfold cutD
  rw [HT.sIx_nat, Nat.min_eq_left h]
  exact List.take_of_length_le (by rw [List.length_drop]; exact Nat.le_refl _)
theorem cutN_upto {ds : List D} {i : Nat} (h : i ≤ ds.length) : cutD ds none (some ((i : Nat) : Int)) = ds.take i := by
  unfold cutD
  rw [HT.sIx_nat, Nat.min_eq_left h]
  show (ds.drop 0).take (i - 0) = _
  rw [List.drop_zero, Nat.sub_zero]
theorem cut_turn {α : Type} {f : α → D} {r : List α} {i : Nat} (h : i ≤ r.length) : cutD (r.map f) (some ((i : Nat) : Int)) none ++ cutD (r.map f) none (some ((i : Nat) : Int)) = (turn i r).map f := by
  rw [cutN_from (by rw [List.length_map]; exact h), cutN_upto (by rw [List.length_map]; exact h)]
  unfold turn
  rw [List.map_append, List.map_drop, List.map_take]
theorem cut_less {α : Type} {f : α → D} {r : List α} {i : Nat} (h : i < r.length) : cutD (r.map f) none (some ((i : Nat) : Int)) ++ cutD (r.map f) (some ((i : Int) + 1)) none = (less i r).map f := by
  rw [show ((i : Int) + 1) = ((i + 1 : Nat) : Int) by omega, cutN_from (by rw [List.length_map]; omega), cutN_upto (by rw [List.length_map]; omega)]
  unfold less
  rw [List.map_append, List.map_drop, List.map_take]
theorem ixN_at {n i : Nat} (h : i < n) : ixN n ((i : Nat) : Int) = some i := by
  unfold ixN
  rw [if_pos (by omega), if_pos (by omega), Int.toNat_natCast]
theorem pick3a (a : Int) {r : Nat} (h : (r : Int) < 3) (ha : BigA (some a)) : ∃ x : Option Int, BigB x ∧ L2.atI [D.non, D.int 1, D.int (a + 1)] ((r : Nat) : Int) = some (ansD x) := by
  have h1 : a.natAbs < 10 ^ 25 := ha a rfl
  rcases (by omega : r = 0 ∨ r = 1 ∨ r = 2) with rfl | rfl | rfl
  · exact ⟨none, (fun b e => by cases e), rfl⟩
  · exact ⟨some 1, (fun b e => by cases e; decide), rfl⟩
  · exact ⟨some (a + 1), (fun b e => by cases e; omega), rfl⟩
theorem map_set_at {α β : Type} (f : α → β) (l : List α) (i : Nat) (x : α) : (l.map f).set i (f x) = (l.set i x).map f := (List.map_set ..).symm
theorem tk3 {p : Addr} {c : Cell} {rest : Mem} {n : Nat} {span : Int} {Q : D → Mem → Prop} (hk : Kit n c) (q : ∀ (r : Nat) (c' : Cell), (r : Int) < span → Kit (n + 1) c' → Q (.int (r : Nat)) ((p, c') :: rest)) (hn : n < 2 ^ 40 := by omega) (s0 : 0 < span := by decide) (s1 : span < 2 ^ 200 := by decide) : FSn 2 F_toss [.adr p, .int span] ((p, c) :: rest) Q := use_toss hk hn s0 s1 q
def F_changed : FS := fun ds m Q => ∃ (p : Addr) (c : Cell) (rest : Mem) (n : Nat) (ws : List Str) (T : Tab), ds = [.adr p, .lst (ws.map .str), tabD T] ∧ m = (p, c) :: rest ∧ Kit n c ∧ n + 60 < 2 ^ 40 ∧ Cand ws T ∧ T.length ≤ 25 ∧ 0 < ws.length ∧ (∀ r ∈ T, ∀ s ∈ r, BigA s.2) ∧
  ∀ (ws' : List Str) (T' : Tab) (c' : Cell), Cand ws' T' → 0 < ws'.length → Kit (n + 60) c' → Q (.tup [.lst (ws'.map .str), tabD T']) ((p, c') :: rest)
theorem ok__law_changed (T : Txt K mg a) : Def P w K mg base 3 a.f__law_changed ["kit", "names_here", "grid"] (FSn 3 (F_changed)) := by
  have nd := sc__law_changed.nd
  have C__law_toss := ok__law_toss (P := P) (w := w) (base := base) T
  refine defOk T.h__law_changed sc__law_changed (fun _ _ _ h => h.1) (fun cdv A outer s H E hr => by exact (pss_cons (ps_par3 (i := 3) (j := 4) (l := 5) rfl nd rfl rfl rfl (by decide) (by decide) (by decide) rfl rfl rfl (pa_cons (pe_callTy (kx_list K rfl) (by rfl) T.n_list (by decide +kernel) (pa_cons (pv 1) pa_nil)) (pa_cons (pe_lc (own := [("line", 10)]) (g := (gName 10)) (tt := tYes) rfl nd (kx_pi K rfl (pv 2)) (blkOk_by (own := [("line", 10)]) (N := N__law_changed) (sc := defScope s__law_changed) (by decide +kernel)) (fun _ _ _ _ _ => (pg_name (i := 10) nd rfl (by first | exact Or.inl rfl | exact Or.inr rfl))) (fun _ _ _ _ _ => pts_nil) (fun _ _ _ _ _ => (pe_callTy (kx_list K rfl) (by rfl) T.n_list (by decide +kernel) (pa_cons (pv 10) pa_nil)))) (pa_cons (kx_def K rfl C__law_toss (hr.mono (by decide)) rfl T.g__law_toss T.k__law_toss (pa_cons (pv 0) (pa_cons pe_int pa_nil))) pa_nil))) (by rfl))
    (pss_cons (ps_asg (pe_tup (pa_cons (kx_def K rfl C__law_toss (hr.mono (by decide)) rfl T.g__law_toss T.k__law_toss (pa_cons (pv 0) (pa_cons (pe_callB (kx_len K rfl) (by rfl) T.n_len (by decide +kernel) (pa_cons (pv 4) pa_nil)) pa_nil))) (pa_cons (kx_def K rfl C__law_toss (hr.mono (by decide)) rfl T.g__law_toss T.k__law_toss (pa_cons (pv 0) (pa_cons (pe_callB (kx_len K rfl) (by rfl) T.n_len (by decide +kernel) (pa_cons (pv 3) pa_nil)) pa_nil))) pa_nil))) (kx_tup K rfl (n := 2) (by rfl) (pgs_cons (pg_name (i := 6) nd rfl (Or.inr rfl)) (pgs_cons (pg_name (i := 7) nd rfl (Or.inr rfl)) pgs_nil))))
    (pss_cons (ps_asg (pe_ix (kx_ix K rfl hr.units) (pe_ix (kx_ix K rfl hr.units) (pv 4) (pv 6) (fun _ _ => rfl)) (pv 7) (fun _ _ => rfl)) (kx_tup K rfl (n := 2) (by rfl) (pgs_cons (pg_name (i := 8) nd rfl (Or.inl rfl)) (pgs_cons (pg_name (i := 9) nd rfl (Or.inl rfl)) pgs_nil))))
    (pss_cons (ps_if (pt_cmpR (kx_eqU K rfl hr.units) (pv 5) pe_int (nomark _)) (pss_one (ps_asg (pe_tup (pa_cons (pv 8) (pa_cons (pe_ifExp (pt_cmpR op_notN2 (pv 9) pe_non (nomark _)) (pe_ix (kx_ix K rfl hr.units) (pe_lst (pa_cons pe_non (pa_cons pe_int (pa_cons (pe_op op_addU (pv 9) pe_int) pa_nil)))) (kx_def K rfl C__law_toss (hr.mono (by decide)) rfl T.g__law_toss T.k__law_toss (pa_cons (pv 0) (pa_cons pe_int pa_nil))) (fun _ _ => rfl)) pe_int) pa_nil))) (pg_sub (pe_ix (kx_ix K rfl hr.units) (pv 4) (pv 6) (fun _ _ => rfl)) (pv 7) set_list))) (pss_one (ps_if (pt_cmpR (kx_eqU K rfl hr.units) (pv 5) pe_int (nomark _)) (pss_one (ps_asg (pe_tup (pa_cons (kx_def K rfl C__law_toss (hr.mono (by decide)) rfl T.g__law_toss T.k__law_toss (pa_cons (pv 0) (pa_cons (pe_callB (kx_len K rfl) (by rfl) T.n_len (by decide +kernel) (pa_cons (pv 4) pa_nil)) pa_nil))) (pa_cons (pv 9) pa_nil))) (pg_sub (pe_ix (kx_ix K rfl hr.units) (pv 4) (pv 6) (fun _ _ => rfl)) (pv 7) set_list))) (pss_one (ps_if (pt_cmpR (kx_eqU K rfl hr.units) (pv 5) pe_int (nomark _)) (pss_one (ps_asg (pe_slice (kx_sl K rfl) (pe_op op_addU (pe_ix (kx_ix K rfl hr.units) (pv 3) (pv 7) (fun _ _ => rfl)) pe_str) (po_some (pe_un un_neg pe_int)) po_none) (pg_sub (pv 3) (pv 7) set_list))) (pss_one (ps_if (pt_cmpR (kx_eqU K rfl hr.units) (pv 5) pe_int (nomark _)) (pss_one (ps_setLc (i := 4) (own := [("line", 10)]) (g := (gName 10)) (tt := tYes) rfl nd rfl rfl (sw_true rfl rfl rfl (by decide +kernel)) (kx_pi K rfl (pv 4)) (blkOk_by (own := [("line", 10)]) (N := N__law_changed) (sc := defScope s__law_changed) (by decide +kernel)) (fun _ _ _ _ _ => (pg_name (i := 10) nd rfl (by first | exact Or.inl rfl | exact Or.inr rfl))) (fun _ _ _ _ _ => pts_nil) (fun _ _ _ _ _ => (pe_op op_addU (pe_slice (kx_sl K rfl) (pv 10) (po_some (pv 7)) po_none) (pe_slice (kx_sl K rfl) (pv 10) po_none (po_some (pv 7))))))) (pss_one (ps_if (pt_cmpR (kx_eqU K rfl hr.units) (pv 5) pe_int (nomark _)) (pss_one (ps_set (i := 3) nd rfl (Or.inl rfl) (pe_op op_addU (pe_slice (kx_sl K rfl) (pv 3) (po_some (pv 7)) po_none) (pe_slice (kx_sl K rfl) (pv 3) po_none (po_some (pv 7)))))) (pss_one (ps_if (pt_cmpR (kx_eqU K rfl hr.units) (pv 5) pe_int (nomark _)) (pss_one (ps_expr (kx_bm K rfl PySem.F.plainAttrs_list PySem.F.slot_list_append PySem.F.type_list_append mt_append (pv 4) (pa_cons (pe_lc (own := [("label", 11)]) (g := (gName 11)) (tt := tYes) rfl nd (kx_pi K rfl (pv 3)) (blkOk_by (own := [("label", 11)]) (N := N__law_changed) (sc := defScope s__law_changed) (by decide +kernel)) (fun _ _ _ _ _ => (pg_name (i := 11) nd rfl (by first | exact Or.inl rfl | exact Or.inr rfl))) (fun _ _ _ _ _ => pts_nil) (fun _ _ _ _ _ => (pe_tup (pa_cons (pv 6) (pa_cons pe_int pa_nil))))) pa_nil)))) (pss_one (ps_if (PW.pt (pw_and (pt_cmpR (kx_eqU K rfl hr.units) (pv 5) pe_int (nomark _)) (pw_and1 (pt_cmpR op_gt (pe_callB (kx_len K rfl) (by rfl) T.n_len (by decide +kernel) (pa_cons (pv 3) pa_nil)) pe_int (nomark _))))) (pss_cons (ps_expr (kx_bm K rfl PySem.F.plainAttrs_list PySem.F.slot_list_pop PySem.F.type_list_pop mt_popAt (pv 3) (pa_cons (pv 7) pa_nil)))
    (pss_one (ps_setLc (i := 4) (own := [("line", 10)]) (g := (gName 10)) (tt := tYes) rfl nd rfl rfl (sw_true rfl rfl rfl (by decide +kernel)) (kx_pi K rfl (pv 4)) (blkOk_by (own := [("line", 10)]) (N := N__law_changed) (sc := defScope s__law_changed) (by decide +kernel)) (fun _ _ _ _ _ => (pg_name (i := 10) nd rfl (by first | exact Or.inl rfl | exact Or.inr rfl))) (fun _ _ _ _ _ => pts_nil) (fun _ _ _ _ _ => (pe_op op_addU (pe_slice (kx_sl K rfl) (pv 10) po_none (po_some (pv 7))) (pe_slice (kx_sl K rfl) (pv 10) (po_some (pe_op op_addU (pv 7) pe_int)) po_none)))))) (pss_one (ps_if (pt_cmpR (kx_eqU K rfl hr.units) (pv 5) pe_int (nomark _)) (pss_one (ps_asg (pe_tup (pa_cons (pv 8) (pa_cons (pe_ix (kx_ix K rfl hr.units) (pe_lst (pa_cons pe_int (pa_cons pe_non pa_nil))) (pe_callTy cr_int1 (by rfl) T.n_int (by decide +kernel) (pa_cons (pe_cmpR (kx_eqU K rfl hr.units) (pv 9) pe_int (nomark _)) pa_nil)) (fun _ _ => rfl)) pa_nil))) (pg_sub (pe_ix (kx_ix K rfl hr.units) (pv 4) (pv 6) (fun _ _ => rfl)) (pv 7) set_list))) pss_nil)))))))))))))))
    (pss_one (ps_ret (pe_tup (pa_cons (pv 3) (pa_cons (pv 4) pa_nil)))))))))) (fun ds m Q h => ?_)
  replace h := h.2
  clear nd
  obtain ⟨p, c, rest, n, ws, T', rfl, rfl, hk, hn, cd, hT, hw, ha, q⟩ := h
  have tp := cd.ok.pos
  have wl := cd.wl
  refine sw_seq (sw_par3 (aw_cons (ew_listM ?_)))
  walk_at "g"
  refine ⟨_, .of, fun zl => ?_⟩
  walk_at "g"
  refine ew_cellsF stepD (tame_name (by decide)) (iw_any ?_)
  walk_at "g"
  refine ⟨_, .inl rfl, T', rfl, le_sz (by omega), ?_, ?_⟩
  · intro b acc m' z hb
    walk_at "g"
    refine ⟨rfl, ?_⟩
    refine ew_listM ?_
    walk_at "g"
    exact ⟨_, .of, fun z2 => ⟨z2, rfl, rfl⟩⟩
  intro zs zt hzl
  walk_at "g"
  rw [show (p, c) :: rest ++ [(zl, Cell.lst (ws.map D.str))] ++ cellsF stepD zs T' ++ [(zt, Cell.lst (zs.map .adr))] = (p, c) :: (rest ++ [(zl, Cell.lst (ws.map D.str))] ++ cellsF stepD zs T' ++ [(zt, Cell.lst (zs.map .adr))]) from rfl]
  refine tk3 hk fun way c1 h1 k1 => ?_
  walk_at "g"
  have atT : ∀ cc, MAt ((p, cc) :: (rest ++ [(zl, Cell.lst (ws.map D.str))] ++ cellsF stepD zs T' ++ [(zt, Cell.lst (zs.map .adr))])) zt (.lst (zs.map .adr)) := fun cc => MAt.of_mem (x := (zt, Cell.lst (zs.map .adr))) (by simp)
  have atL : ∀ cc, MAt ((p, cc) :: (rest ++ [(zl, Cell.lst (ws.map D.str))] ++ cellsF stepD zs T' ++ [(zt, Cell.lst (zs.map .adr))])) zl (.lst (ws.map .str)) := fun cc => MAt.of_mem (x := (zl, Cell.lst (ws.map .str))) (by simp)
  rw [List.length_map, hzl]
  refine tk3 k1 (fun at_ c2 h2 k2 => ?_) (by omega) (by omega) (by omega)
  walk_at "g"
  rw [List.length_map]
  refine tk3 k2 (fun spot c3 h3 k3 => ?_) (by omega) (by omega) (by omega)
  walk_at "g"
  have hza : zs[at_]? = some (zs[at_]'(by omega)) := List.getElem?_eq_getElem (by omega)
  have hga : T'[at_]? = some (T'[at_]'(by omega)) := List.getElem?_eq_getElem (by omega)
  have hrw := cd.wid _ (List.getElem_mem (show at_ < T'.length by omega))
  generalize zs[at_]'(by omega) = za at hza
  generalize T'[at_]'(by omega) = ra at hga hrw
  have cells : MAt ((p, c3) :: (rest ++ [(zl, Cell.lst (ws.map D.str))] ++ cellsF stepD zs T' ++ [(zt, Cell.lst (zs.map .adr))])) za (.lst (ra.map stepD)) := .cons (.app (.pre ⟨at_, cellsF_at hza hga⟩))
  have hss : ra[spot]? = some (ra[spot]'(by omega)) := List.getElem?_eq_getElem (by omega)
  generalize ra[spot]'(by omega) = st at hss
  obtain ⟨fo, an⟩ := st
  have hT0 : (fo, an) ∈ ra := List.mem_of_getElem? hss
  have hra : ra ∈ T' := List.mem_of_getElem? hga
  have hfo : fo < T'.length := cd.ok.lt ra hra _ hT0
  have han : BigA an := ha ra hra _ hT0
  have eT : T'.getD at_ [] = ra := by rw [List.getD_eq_getElem?_getD, hga]; rfl
  have up : ∀ (r' : List Step) (cc : Cell), MUp ((p, cc) :: (rest ++ [(zl, Cell.lst (ws.map D.str))] ++ cellsF stepD zs T' ++ [(zt, Cell.lst (zs.map .adr))])) za (.lst (ra.map stepD)) (.lst (r'.map stepD)) ((p, cc) :: (rest ++ [(zl, Cell.lst (ws.map D.str))] ++ cellsF stepD zs (T'.set at_ r') ++ [(zt, Cell.lst (zs.map .adr))])) := fun r' cc => .cons (.app (.pre (cellsF_up hza hga r')))
  refine oi_M (atT _) (at_map (f := D.adr) hza) ?_
  walk_at "g"
  refine oi_M cells (at_map (f := stepD) hss) ?_
  walk_at "g"
  refine sw_ifJ (fun δ' m' => ∃ (ws' : List Str) (T2 : Tab) (c' : Cell) (xl xt : D) (g : Mem), Cand ws' T2 ∧ 0 < ws'.length ∧ Kit (n + 60) c' ∧ δ'[3]? = some (some xl) ∧ δ'[4]? = some (some xt) ∧ m' = (p, c') :: (rest ++ g) ∧ Lends K ((p, c') :: rest) g xl (.lst (ws'.map .str)) ∧ Lends K ((p, c') :: rest) g xt (tabD T2)) ?_ ?_
  rotate_left
  · rintro δ' m' ⟨ws', T2, c', xl, xt, g, cd', hw', k', e3, e4, rfl, l1, l2⟩
    refine sw_ret (ew_freeze (ew_tup2 (ew_var e3 (ew_var e4 ⟨(p, c') :: rest, g, .tup [.lst (ws'.map .str), tabD T2], .refl _, fun H v M x => ?_, q ws' T2 c' cd' hw' k'⟩))))
    have sb := (MemOk.dropG _ M).2
    cases x with
    | tup e x =>
      cases x with
      | cons x1 x2 =>
        cases x2 with
        | cons x2 x3 =>
          cases x3
          exact .tup (sb.sqt e) (.cons (l1 H _ M x1) (.cons (l2 H _ M x2) .nil))
  have zin : ∀ q ∈ zs.zip T', cellF stepD q.1 q.2 ∈ cellsF stepD zs T' := fun q hq => by
    unfold cellsF
    rw [← List.map_uncurry_zip_eq_zipWith]
    exact List.mem_map.mpr ⟨q, hq, rfl⟩
  have lL : ∀ (cc : Cell) (ws' : List Str) (T2 : Tab), Lends K ((p, cc) :: rest) ([(zl, Cell.lst (ws'.map D.str))] ++ cellsF stepD zs T2 ++ [(zt, Cell.lst (zs.map .adr))]) (.adr zl) (.lst (ws'.map .str)) := fun cc ws' T2 => Lends.cell (c := .lst (ws'.map .str)) (by simp) rfl
  have lT : ∀ (cc : Cell) (ws' : List Str) (T2 : Tab), zs.length = T2.length → Lends K ((p, cc) :: rest) ([(zl, Cell.lst (ws'.map D.str))] ++ cellsF stepD zs T2 ++ [(zt, Cell.lst (zs.map .adr))]) (.adr zt) (tabD T2) := fun cc ws' T2 hl => Lends.tab (by simp) hl (fun x hx => by simp [hx])
  have ass : ∀ (cc : Cell) (ws' : List Str) (T2 : Tab), (p, cc) :: (rest ++ [(zl, Cell.lst (ws'.map D.str))] ++ cellsF stepD zs T2 ++ [(zt, Cell.lst (zs.map .adr))]) = (p, cc) :: (rest ++ ([(zl, Cell.lst (ws'.map D.str))] ++ cellsF stepD zs T2 ++ [(zt, Cell.lst (zs.map .adr))])) := fun cc ws' T2 => by simp
  have ends : ∀ (δ' : List (Option D)) (cc : Cell) (s' : Step), Kit (n + 60) cc → s'.1 < T'.length → BigB s'.2 → δ'[3]? = some (some (.adr zl)) → δ'[4]? = some (some (.adr zt)) → ∃ (ws' : List Str) (T2 : Tab) (c' : Cell) (xl xt : D) (g : Mem), Cand ws' T2 ∧ 0 < ws'.length ∧ Kit (n + 60) c' ∧ δ'[3]? = some (some xl) ∧ δ'[4]? = some (some xt) ∧ (p, cc) :: (rest ++ [(zl, Cell.lst (ws.map D.str))] ++ cellsF stepD zs (T'.set at_ (ra.set spot s')) ++ [(zt, Cell.lst (zs.map .adr))]) = (p, c') :: (rest ++ g) ∧ Lends K ((p, c') :: rest) g xl (.lst (ws'.map .str)) ∧ Lends K ((p, c') :: rest) g xt (tabD T2) := fun δ' cc s' kk h1 h2 e3 e4 => by
    have cs := cd.step (i := at_) (j := spot) h1 h2
    unfold setS at cs
    rw [eT] at cs
    exact ⟨ws, _, cc, .adr zl, .adr zt, _, cs, hw, kk, e3, e4, ass cc ws _, lL cc ws _, lT cc ws _ (by rw [List.length_set]; exact hzl)⟩
  walk_at "g"
  refine iteD (fun h0 => ?_) (fun h0 => ?_)
  · walk_at "g"
    refine iteB (fun e => ?_) (fun e => ?_)
    rotate_left
    · walk_at "g"
      refine oi_M (atT _) (at_map (f := D.adr) hza) ?_
      walk_at "g"
      have hup := up (ra.set spot (fo, some 1)) c3
      rw [← map_set_at] at hup
      refine ⟨za, _, _, spot, _, rfl, rfl, hup, ixN_at (by rw [List.length_map]; omega), ?_⟩
      exact ends _ c3 (fo, some 1) (k3.up (by omega)) hfo (fun a e => by cases e; decide) rfl rfl
    · obtain ⟨a, rfl⟩ : ∃ a, an = some a := by
        cases an with
        | none => exact Bool.noConfusion (show false = true from e)
        | some a => exact ⟨a, rfl⟩
      walk_at "g"
      refine ew_l3 ?_
      walk_at "g"
      refine ow_addI ?_
      walk_at "g"
      refine tk3 k3 (fun r c4 h4 k4 => ?_) (by omega)
      obtain ⟨x, hx, ex⟩ := pick3a a h4 han
      refine oi_L ex ?_
      walk_at "g"
      refine oi_M (atT _) (at_map (f := D.adr) hza) ?_
      walk_at "g"
      have hup := up (ra.set spot (fo, x)) c4
      rw [← map_set_at] at hup
      refine ⟨za, _, _, spot, _, rfl, rfl, hup, ixN_at (by rw [List.length_map]; omega), ?_⟩
      exact ends _ c4 (fo, x) (k4.up (by omega)) hfo hx rfl rfl
  refine sw_if ?_
  walk_at "g"
  refine iteD (fun h1 => ?_) (fun h1 => ?_)
  · walk_at "g"
    rw [List.length_map, hzl]
    refine tk3 k3 (fun f2 c4 h4 k4 => ?_) (by omega) (by omega) (by omega)
    walk_at "g"
    refine oi_M (atT _) (at_map (f := D.adr) hza) ?_
    walk_at "g"
    have hup := up (ra.set spot (f2, an)) c4
    rw [← map_set_at] at hup
    refine ⟨za, _, _, spot, _, rfl, rfl, hup, ixN_at (by rw [List.length_map]; omega), ?_⟩
    exact ends _ c4 (f2, an) (k4.up (by omega)) (by show f2 < _; omega) (fun a e => by have := han a e; omega) rfl rfl
  refine sw_if ?_
  walk_at "g"
  refine iteD (fun h2 => ?_) (fun h2 => ?_)
  · walk_at "g"
    have hws : ws[spot]? = some (ws[spot]'(by omega)) := List.getElem?_eq_getElem (by omega)
    generalize ws[spot]'(by omega) = w at hws
    have hnm := cd.nm w (List.mem_of_getElem? hws)
    have hn8 := nameB_len hnm
    refine oi_M (atL _) (at_map (f := D.str) hws) ?_
    walk_at "g"
    refine ow_addS (le_sz (by show w.length + 1 ≤ _; omega)) ?_
    walk_at "g"
    refine lw_S (le_sz (by rw [app_q_len]; omega)) ?_
    walk_at "g"
    have hup : MUp ((p, c3) :: (rest ++ [(zl, Cell.lst (ws.map D.str))] ++ cellsF stepD zs T' ++ [(zt, Cell.lst (zs.map .adr))])) zl (.lst (ws.map .str)) (.lst ((ws.map D.str).set spot (.str (cutS (w ++ "q") (some (-8)) none)))) ((p, c3) :: (rest ++ [(zl, Cell.lst ((ws.map D.str).set spot (.str (cutS (w ++ "q") (some (-8)) none))))] ++ cellsF stepD zs T' ++ [(zt, Cell.lst (zs.map .adr))])) := .cons (.app (.app .last))
    refine ⟨zl, _, _, spot, _, rfl, rfl, hup, ixN_at (by rw [List.length_map]; omega), ?_⟩
    rw [map_set_at D.str]
    exact ⟨ws.set spot _, T', c3, .adr zl, .adr zt, _, cd.name (nameQ hnm), by rw [List.length_set]; exact hw, k3.up (by omega), rfl, rfl, ass c3 _ T', lL c3 _ _, lT c3 _ _ hzl⟩
  refine sw_if ?_
  walk_at "g"
  refine iteD (fun h3 => ?_) (fun h3 => ?_)
  · walk_at "g"
    refine ew_lcRow (tame_name (by decide)) (fun r => rowD (turn spot r)) ?_
    walk_at "g"
    refine ⟨zt, zs, T', hzl, rfl, atT _, by omega, fun q hq => MAt.of_mem (x := (q.1, Cell.lst (q.2.map stepD))) (List.mem_cons_of_mem _ (List.mem_append_left _ (List.mem_append_right _ (zin q hq)))), ?_, ?_⟩
    · intro za2 r acc zz hr hat
      have hrl := cd.wid r hr
      walk_at "g"
      refine ⟨rfl, ?_⟩
      walk_at "g"
      refine lw_Q (.at_ hat) ?_
      walk_at "g"
      refine lw_Q (.at_ hat) ?_
      refine ow_addL (le_sz (by rw [cutN_from (by rw [List.length_map]; omega), cutN_upto (by rw [List.length_map]; omega), List.length_drop, List.length_take, List.length_map]; omega)) ?_
      rw [cut_turn (by omega)]
      exact ⟨rfl, rfl⟩
    · intro zz
      walk_at "g"
      exact ⟨ws, T'.map (turn spot), c3, .adr zl, .adr zz, [(zl, Cell.lst (ws.map D.str))] ++ cellsF stepD zs T' ++ [(zt, Cell.lst (zs.map .adr))] ++ [(zz, .lst (T'.map fun r => rowD (turn spot r)))], cd.turned spot, hw, k3.up (by omega), rfl, rfl, by simp, Lends.cell (c := .lst (ws.map .str)) (by simp) rfl, Lends.cell (c := .lst (T'.map fun r => rowD (turn spot r))) (by simp) (by show some (D.lst _) = some (D.lst _); rw [List.map_map]; rfl)⟩
  refine sw_if ?_
  walk_at "g"
  refine iteD (fun h4 => ?_) (fun h4 => ?_)
  · walk_at "g"
    refine lw_Q (.at_ (atL _)) ?_
    walk_at "g"
    refine lw_Q (.at_ (atL _)) ?_
    refine ow_addL (le_sz (by rw [cutN_from (by rw [List.length_map]; omega), cutN_upto (by rw [List.length_map]; omega), List.length_drop, List.length_take, List.length_map]; omega)) ?_
    rw [cut_turn (by omega)]
    exact ⟨turn spot ws, T', c3, .lst ((turn spot ws).map .str), .adr zt, _, cd.names spot, by rw [turn_len]; exact hw, k3.up (by omega), rfl, rfl, ass c3 ws T', Lends.same, lT c3 ws T' hzl⟩
  refine sw_if ?_
  walk_at "g"
  refine iteD (fun h5 => ?_) (fun h5 => ?_)
  · walk_at "g"
    refine ew_lcQ (tame_name (by decide)) ?_
    walk_at "g"
    refine ⟨Str, ws, D.str, .at_ (atL _), fun j acc m' => acc = ((ws.take j).map (fun _ => ((at_, some 5) : Step))).map stepD ∧ m' = ((p, c3) :: (rest ++ [(zl, Cell.lst (ws.map D.str))] ++ cellsF stepD zs T' ++ [(zt, Cell.lst (zs.map .adr))])), ⟨rfl, rfl⟩, ?_, ?_, ?_⟩
    · rintro j acc m' ⟨_, rfl⟩
      exact .at_ (atL _)
    · rintro j y acc m' z hj ⟨rfl, rfl⟩
      refine ⟨Nat.lt_of_le_of_lt (m := 10) (by rw [List.length_map, List.length_map, List.length_take]; omega) (by decide), ?_⟩
      walk_at "g"
      rw [if_pos rfl]
      walk_at "g"
      refine ⟨?_, rfl⟩
      rw [List.take_add_one, hj, List.map_append, List.map_append]
      rfl
    · rintro acc m' z ⟨rfl, rfl⟩
      rw [List.take_length]
      walk_at "g"
      have hup : MUp (((p, c3) :: (rest ++ [(zl, Cell.lst (ws.map D.str))] ++ cellsF stepD zs T' ++ [(zt, Cell.lst (zs.map .adr))])) ++ [(z, Cell.lst ((ws.map (fun _ => ((at_, some 5) : Step))).map stepD))]) zt (.lst (zs.map .adr)) (.lst (zs.map .adr ++ [.adr z])) ((p, c3) :: (rest ++ [(zl, Cell.lst (ws.map D.str))] ++ cellsF stepD zs T' ++ [(zt, Cell.lst (zs.map .adr ++ [.adr z]))]) ++ [(z, Cell.lst ((ws.map (fun _ => ((at_, some 5) : Step))).map stepD))]) := .app (.cons .last)
      exact ⟨ws, T' ++ [ws.map fun _ => (at_, some 5)], c3, .adr zl, .adr zt, [(zl, Cell.lst (ws.map D.str))] ++ cellsF stepD zs T' ++ [(zt, Cell.lst (zs.map .adr ++ [.adr z]))] ++ [(z, Cell.lst ((ws.map (fun _ => ((at_, some 5) : Step))).map stepD))], cd.more (by omega) (by omega), hw, k3.up (by omega), rfl, rfl, by simp, Lends.cell (c := .lst (ws.map .str)) (by simp) rfl, Lends.tab (f := stepD) (zs := zs ++ [z]) (G := T' ++ [ws.map fun _ => (at_, some 5)]) (by simp) (by simp; omega) (fun x hx => by
        rw [cellsF_snoc hzl] at hx
        rcases List.mem_append.mp hx with h | h
        · exact List.mem_append_left _ (List.mem_append_left _ (List.mem_append_right _ h))
        · exact List.mem_append_right _ h)⟩
  have same : ∀ (δ' : List (Option D)), δ'[3]? = some (some (.adr zl)) → δ'[4]? = some (some (.adr zt)) → ∃ (ws' : List Str) (T2 : Tab) (c' : Cell) (xl xt : D) (g : Mem), Cand ws' T2 ∧ 0 < ws'.length ∧ Kit (n + 60) c' ∧ δ'[3]? = some (some xl) ∧ δ'[4]? = some (some xt) ∧ (p, c3) :: (rest ++ [(zl, Cell.lst (ws.map D.str))] ++ cellsF stepD zs T' ++ [(zt, Cell.lst (zs.map .adr))]) = (p, c') :: (rest ++ g) ∧ Lends K ((p, c') :: rest) g xl (.lst (ws'.map .str)) ∧ Lends K ((p, c') :: rest) g xt (tabD T2) := fun δ' e3 e4 => ⟨ws, T', c3, .adr zl, .adr zt, _, cd, hw, k3.up (by omega), e3, e4, ass c3 ws T', lL c3 ws _, lT c3 ws _ hzl⟩
  refine sw_if (tw_mid (fun b m1 => m1 = (p, c3) :: (rest ++ [(zl, Cell.lst (ws.map D.str))] ++ cellsF stepD zs T' ++ [(zt, Cell.lst (zs.map .adr))]) ∧ (b = true → 1 < ws.length)) ?_ ?_)
  · walk_at "g"
    refine iteD (fun h6 => ?_) (fun _ => ⟨rfl, fun h => by cases h⟩)
    walk_at "g"
    rw [List.length_map]
    exact ⟨rfl, fun h => by have := of_decide_eq_true h; omega⟩
  rintro b m1 ⟨rfl, hb⟩
  cases b with
  | true =>
    have h1w := hb rfl
    rw [if_pos rfl]
    walk_at "g"
    have hsw : spot < ws.length := by omega
    have hws : ws[spot]? = some ws[spot] := List.getElem?_eq_getElem hsw
    have ee : (ws.map D.str).eraseIdx spot = (less spot ws).map D.str := by
      rw [← less_erase]
      unfold less
      rw [List.map_append, List.map_take, List.map_drop]
    have hup : MUp ((p, c3) :: (rest ++ [(zl, Cell.lst (ws.map D.str))] ++ cellsF stepD zs T' ++ [(zt, Cell.lst (zs.map .adr))])) zl (.lst (ws.map .str)) (.lst ((ws.map D.str).eraseIdx spot)) ((p, c3) :: (rest ++ [(zl, Cell.lst ((less spot ws).map D.str))] ++ cellsF stepD zs T' ++ [(zt, Cell.lst (zs.map .adr))])) := by
      rw [ee]
      exact .cons (.app (.app .last))
    refine mw_popAt hup (show (ws.map D.str)[spot]? = some (.str ws[spot]) by rw [List.getElem?_map, hws]; rfl) (by rw [List.length_map]; omega) ?_
    have atT2 : MAt ((p, c3) :: (rest ++ [(zl, Cell.lst ((less spot ws).map D.str))] ++ cellsF stepD zs T' ++ [(zt, Cell.lst (zs.map .adr))])) zt (.lst (zs.map .adr)) := MAt.of_mem (x := (zt, Cell.lst (zs.map .adr))) (by simp)
    have hlw : (less spot ws).length = ws.length - 1 := less_len hsw
    walk_at "g"
    refine ew_lcRow (tame_name (by decide)) (fun r => rowD (less spot r)) ?_
    walk_at "g"
    refine ⟨zt, zs, T', hzl, rfl, atT2, by omega, fun q hq => MAt.of_mem (x := (q.1, Cell.lst (q.2.map stepD))) (List.mem_cons_of_mem _ (List.mem_append_left _ (List.mem_append_right _ (zin q hq)))), ?_, ?_⟩
    · intro za2 r acc zz hr hat
      have hrl := cd.wid r hr
      walk_at "g"
      refine ⟨rfl, ?_⟩
      walk_at "g"
      refine lw_Q (.at_ hat) ?_
      walk_at "g"
      refine lw_Q (.at_ hat) ?_
      refine ow_addL (le_sz (by rw [show ((spot : Nat) : Int) + 1 = ((spot + 1 : Nat) : Int) by omega, cutN_from (by rw [List.length_map]; omega), cutN_upto (by rw [List.length_map]; omega), List.length_drop, List.length_take, List.length_map]; omega)) ?_
      rw [cut_less (by omega)]
      exact ⟨rfl, rfl⟩
    · intro zz
      walk_at "g"
      exact ⟨less spot ws, T'.map (less spot), c3, .adr zl, .adr zz, [(zl, Cell.lst ((less spot ws).map D.str))] ++ cellsF stepD zs T' ++ [(zt, Cell.lst (zs.map .adr))] ++ [(zz, .lst (T'.map fun r => rowD (less spot r)))], cd.less hsw, by omega, k3.up (by omega), rfl, rfl, by simp, Lends.cell (c := .lst ((less spot ws).map .str)) (by simp) rfl, Lends.cell (c := .lst (T'.map fun r => rowD (less spot r))) (by simp) (by show some (D.lst _) = some (D.lst _); rw [List.map_map]; rfl)⟩
  | false =>
    rw [if_neg (by decide)]
    refine sw_if ?_
    walk_at "g"
    refine iteD (fun h7 => ?_) (fun h7 => ?_)
    · walk_at "g"
      refine ew_l2 ?_
      walk_at "g"
      refine oq_eq 0 (ansD_nb an) rfl fun b hb2 => ?_
      walk_at "g"
      have ex : ∃ x : Option Int, BigB x ∧ L2.atI [D.int 0, D.non] (if b = true then 1 else 0) = some (ansD x) := by
        cases b
        · exact ⟨some 0, (fun a e => by cases e; decide), rfl⟩
        · exact ⟨none, (fun a e => by cases e), rfl⟩
      obtain ⟨x, hx, ex⟩ := ex
      refine oi_L ex ?_
      walk_at "g"
      refine oi_M (atT _) (at_map (f := D.adr) hza) ?_
      walk_at "g"
      have hup := up (ra.set spot (fo, x)) c3
      rw [← map_set_at] at hup
      refine ⟨za, _, _, spot, _, rfl, rfl, hup, ixN_at (by rw [List.length_map]; omega), ?_⟩
      exact ends _ c3 (fo, x) (k3.up (by omega)) hfo hx rfl rfl
    · walk_at "g"
      exact same _ rfl rfl

end
end DL

set_option Elab.async false
set_option linter.all false
set_option maxRecDepth 100000
set_option maxHeartbeats 4000000
set_option autoImplicit false
namespace DL
open PySem PySem.Spec PyProof.Rows L2
local macro_rules | `(tactic| walk_at "m") => `(tactic| first
  | with_reducible exact MAt.last | with_reducible exact MUp.last
  | exact MAt.zero | exact MUp.zero | exact MAt.last | exact MUp.last
  | (apply MAt.cons; walk_at "m") | (apply MUp.cons; walk_at "m")
  | (apply MAt.app; walk_at "m") | (apply MUp.app; walk_at "m")
  | assumption)
local macro_rules | `(tactic| walk_at "s1") => `(tactic| with_reducible first
  | refine sw_seq ?_ | refine sw_next ?_ | refine sw_ret ?_ | refine sw_retN ?_ | refine sw_asg ?_ | refine sw_asgG ?_ | refine sw_drop ?_ | refine sw_break ?_ | refine sw_cont ?_ | refine sw_par ?_ | refine sw_par3 ?_
  | refine tw_test ?_ | refine tw_B ?_ | refine tw_and ?_ | refine tw_or ?_ | refine tw_not ?_ | refine tw_yes ?_
  | refine ew_op ?_ | refine ew_un ?_ | refine ew_int ?_ | refine ew_non ?_ | refine ew_bl ?_ | refine ew_str ?_ | refine ew_ty ?_ | refine ew_ref ?_ | refine ew_cb ?_ | refine ew_if ?_ | refine ew_andV ?_ | refine ew_orV ?_ | refine ew_notV ?_ | refine ew_chain ?_ | refine ew_sl ?_ | refine pw_no ?_ | refine pw_part ?_
  | refine ew_call0 ?_ | refine ew_kw0 ?_
  | refine aw_nil ?_ | refine aw_cons ?_ | refine ew_bm ?_ | refine ew_bm0 ?_ | refine gs_L ?_
  | refine gs_nil ?_ | refine gs_cons ?_ | refine gw_name ?_
  | refine ow_addI ?_ | refine ow_odd ?_ | refine ow_i0 ?_ | refine ow_b0 ?_ | refine oq_eqI ?_ | refine oq_neI ?_ | refine oq_eqS ?_ | refine oq_neS ?_ | refine ow_isN ?_ | refine ow_notN ?_ | refine uw_neg ?_ | refine cw_int ?_ | refine cw_intB ?_ | refine cw_abs ?_ | refine cw_mx2 ?_ | refine cw_mn2 ?_ | refine cw_lenL ?_ | refine cw_lenR ?_ | refine cw_listL ?_ | refine cw_listT ?_ | refine lw_L ?_ | refine ew_revL ?_)
local macro_rules | `(tactic| walk_at "s2") => `(tactic| first
  | ((with_reducible refine' ew_var ?hv ?_); (case hv => exact rfl))
  | ((with_reducible refine' oi_M ?hm ?hi ?_); (case hm => walk_at "m"); (case hi => exact rfl))
  | ((with_reducible refine' ow_ixT ?hi ?_); (case hi => exact rfl))
  | ((with_reducible refine' cl_M ?hm ?_); (case hm => walk_at "m"))
  | ((with_reducible refine' ci_M ?hm ?_); (case hm => walk_at "m"))
  | ((with_reducible refine' ma_app ?hm ?ll ?_); (case hm => walk_at "m"); (case ll => walk_at "l"))
  | ((with_reducible refine' And.intro (ty_A ?hm) ?_); (case hm => walk_at "m"))
  | (with_reducible refine' Exists.intro _ (And.intro ?he ?_); (case he => exact rfl))
  | (with_reducible refine' Exists.intro _ (Exists.intro _ (And.intro ?he ?_)); (case he => exact rfl))
  | (with_reducible refine' Exists.intro _ (Exists.intro _ (Exists.intro _ (And.intro ?he ?_))); (case he => exact rfl))
  | ((with_reducible refine' Exists.intro _ (Exists.intro _ (Exists.intro _ (Exists.intro _ (Exists.intro _ (And.intro ?e1 (And.intro ?e2 (And.intro ?hm (And.intro ?hi ?_))))))))); (case e1 => exact rfl); (case e2 => exact rfl); (case hm => walk_at "m"); (case hi => exact rfl)))
local macro_rules | `(tactic| walk_at "l") => `(tactic| first | assumption | exact lt_sz (by omega) | exact lt_sz (by simp only [List.length_map, List.length_append, List.length_cons, List.length_nil, List.length_take, List.length_drop, List.length_range]; omega))
local macro_rules | `(tactic| walk_at "s") => `(tactic| repeat (first | walk_at "s1" | walk_at "s2"))
local macro_rules | `(tactic| walk_at "sx") => `(tactic| with_reducible first
  | refine swx_of ?_ | refine swx_seq ?_ | refine swx_drop ?_ | refine swx_asg ?_ | refine swx_ret ?_ | refine ewx_fun ?_ | refine ewx_meth ?_ | refine ewx_make ?_ | refine ewx_sub ?_)
local macro_rules | `(tactic| walk_at "s") => `(tactic| repeat (first | walk_at "s1" | walk_at "s2" | walk_at "sx"))
local macro_rules | `(tactic| walk_at "g1") => `(tactic| with_reducible first
  | refine ew_tup2 ?_ | refine ew_tup3 ?_ | refine ew_tup4 ?_ | refine ew_fldI ?_ | refine sw_fldA ?_ | refine ew_dget1 ?_ | refine ew_dget2 ?_ | refine ow_isN ?_)
local macro_rules | `(tactic| walk_at "g2") => `(tactic| first
  | ((with_reducible refine' gw_tup ?e ?_); (case e => exact rfl))
  | ((with_reducible refine' oi_L ?e ?_); (case e => exact rfl))
  | ((refine' Exists.intro _ (And.intro ?cl (And.intro ?na (And.intro ?e ?_)))); (case cl => assumption); (case na => assumption); (case e => exact rfl))
  | ((refine' Exists.intro _ (Exists.intro _ (Exists.intro _ (Exists.intro _ (And.intro ?e (And.intro ?hm (And.intro ?cl (And.intro ?na (And.intro ?l ?_))))))))); (case e => exact rfl); (case hm => walk_at "m"); (case cl => assumption); (case na => assumption); (case l => exact Nat.le_of_ble_eq_true rfl)))
local macro_rules | `(tactic| walk_at "g") => `(tactic| repeat (first | walk_at "s1" | walk_at "s2" | walk_at "sx" | walk_at "g1" | walk_at "g2"))

section
variable {P : Program} {w : World} {K : PySem.W.Frag} {mg : Str → Option Value} {base : Heap} {a : Ads}
/-! ### two services held against each other -/
theorem normT_same2 {T : Tab} (h : TabOk T) : normT (normT T) = normT T := normT_same (normT_ok h) (normT_normal h)
theorem normT_wid {k : Nat} {T : Tab} (h : TabOk T) (w : ∀ r ∈ T, r.length = k) : ∀ r ∈ normT T, r.length = k := fun r hr => by
  obtain ⟨x, hx, rfl⟩ := List.mem_map.mp hr
  rw [List.length_map]
  have hl := fin_lt h hx
  rw [List.getD_eq_getElem?_getD, List.getElem?_eq_getElem hl]
  exact w _ (List.getElem_mem hl)
theorem normT_few {T : Tab} (h : TabOk T) : (normT T).length ≤ T.length := by
  rw [normT_len]
  exact fin_len h
theorem SvcIn.srv {ws : List Str} {T : Tab} (h : SvcIn ws T) : Srv ws (normT T) :=
  ⟨⟨normT_ok h.ok, normT_wid h.ok h.wid, fun x hx => name_ok (h.nm x hx), Nat.le_trans (normT_few h.ok) h.le, h.few⟩, h.nd⟩
theorem SvcIn.norm {ws : List Str} {T : Tab} (h : SvcIn ws T) : SvcIn ws (normT T) := ⟨normT_ok h.ok, normT_wid h.ok h.wid, h.nm, h.nd, Nat.le_trans (normT_few h.ok) h.le, h.few⟩
theorem pick2q (x y : Int) {r : Nat} (h : (r : Int) < 2) : ∃ v : Int, (v = x ∨ v = y) ∧ L2.atI [D.int x, .int y] ((r : Nat) : Int) = some (.int v) := by
  rcases (by omega : r = 0 ∨ r = 1) with rfl | rfl
  · exact ⟨x, .inl rfl, rfl⟩
  · exact ⟨y, .inr rfl, rfl⟩
theorem pick2 (x y : Int) (b : Bool) : L2.atI [D.int x, .int y] (if b = true then 1 else 0) = some (.int (if b = true then y else x)) := by cases b <;> rfl
def F_fits : FS := fun ds m Q => ∃ (p : Addr) (c : Cell) (n : Nat), ds = [.adr p] ∧ m = [(p, c)] ∧ Kit n c ∧ n + 26000 < 2 ^ 40 ∧ ∀ c' : Cell, Kit (n + 26000) c' → Q (.bl true) [(p, c')]
theorem ok__law_fits (T : Txt K mg a) : DefG P w K mg base 9 a.f__law_fits ["kit"] (FSn 1 (F_fits)) := by
  have nd := sc__law_fits.nd
  have C__law_both := ok__law_both (P := P) (w := w) (base := base) T
  have C_Service_calls := ok_Service_calls (P := P) (w := w) (base := base) T
  have C_Service_table := ok_Service_table (P := P) (w := w) (base := base) T
  have C__law_built := ok__law_built (P := P) (w := w) (base := base) T
  have C__law_walked := ok__law_walked (P := P) (w := w) (base := base) T
  have C__law_changed := ok__law_changed (P := P) (w := w) (base := base) T
  have C__law_far_answers := ok__law_far_answers (P := P) (w := w) (base := base) T
  have C__law_grid := ok__law_grid (P := P) (w := w) (base := base) T
  have C__law_toss := ok__law_toss (P := P) (w := w) (base := base) T
  have C__law_tags := ok__law_tags (P := P) (w := w) (base := base) T
  refine defOkG T.h__law_fits sc__law_fits (fun _ _ _ h => h.1) (fun cdv A outer s H hg hr => by exact (pss_cons (ps_set (i := 1) nd rfl (Or.inl rfl) (kx_def K rfl C__law_tags (hr.mono (by decide)) rfl T.g__law_tags T.k__law_tags (pa_cons (pv 0) (pa_cons (pe_op op_addU pe_int (kx_def K rfl C__law_toss (hr.mono (by decide)) rfl T.g__law_toss T.k__law_toss (pa_cons (pv 0) (pa_cons (pe_ix (kx_ix K rfl hr.units) (pe_lst (pa_cons pe_int (pa_cons pe_int pa_nil))) (kx_def K rfl C__law_toss (hr.mono (by decide)) rfl T.g__law_toss T.k__law_toss (pa_cons (pv 0) (pa_cons pe_int pa_nil))) (fun _ _ => rfl)) pa_nil)))) pa_nil))))
    (pss_cons (ps_set (i := 2) nd rfl (Or.inl rfl) (kx_def K rfl C__law_grid (hr.mono (by decide)) rfl T.g__law_grid T.k__law_grid (pa_cons (pv 0) (pa_cons (pe_op op_addU pe_int (kx_def K rfl C__law_toss (hr.mono (by decide)) rfl T.g__law_toss T.k__law_toss (pa_cons (pv 0) (pa_cons (pe_ix (kx_ix K rfl hr.units) (pe_lst (pa_cons pe_int (pa_cons pe_int pa_nil))) (pe_callTy cr_int1 (by rfl) T.n_int (by decide +kernel) (pa_cons (pe_cmpR (kx_eqU K rfl hr.units) (kx_def K rfl C__law_toss (hr.mono (by decide)) rfl T.g__law_toss T.k__law_toss (pa_cons (pv 0) (pa_cons pe_int pa_nil))) pe_int (nomark _)) pa_nil)) (fun _ _ => rfl)) pa_nil)))) (pa_cons (pe_callB (kx_len K rfl) (by rfl) T.n_len (by decide +kernel) (pa_cons (pv 1) pa_nil)) pa_nil)))))
    (pss_cons (ps_set (i := 2) nd rfl (Or.inl rfl) (kx_def K rfl C__law_far_answers (hr.mono (by decide)) rfl T.g__law_far_answers T.k__law_far_answers (pa_cons (pv 0) (pa_cons (pv 2) pa_nil))))
    (pss_cons (ps_asg (kx_def K rfl C__law_changed (hr.mono (by decide)) rfl T.g__law_changed T.k__law_changed (pa_cons (pv 0) (pa_cons (pv 1) (pa_cons (pv 2) pa_nil)))) (kx_tup K rfl (n := 2) (by rfl) (pgs_cons (pg_name (i := 3) nd rfl (Or.inl rfl)) (pgs_cons (pg_name (i := 4) nd rfl (Or.inl rfl)) pgs_nil))))
    (pss_cons (ps_if (pt_cmpR op_lt (kx_lenSetS K rfl rfl (by rfl) T.n_len (by rfl) T.n_set (pv 3)) (pe_callB (kx_len K rfl) (by rfl) T.n_len (by decide +kernel) (pa_cons (pv 3) pa_nil)) (nomark _)) (pss_one (ps_par (i := 3) (j := 4) rfl nd rfl rfl (by decide) rfl rfl (pa_cons (pv 1) (pa_cons (pv 2) pa_nil)) (by rfl))) pss_nil)
    (pss_cons (ps_asg (pe_tup (pa_cons (kx_def K rfl C__law_built (hr.mono (by decide)) rfl T.g__law_built T.k__law_built (pa_cons (pv 1) (pa_cons (pv 2) pa_nil))) (pa_cons (kx_def K rfl C__law_built (hr.mono (by decide)) rfl T.g__law_built T.k__law_built (pa_cons (pv 3) (pa_cons (pv 4) pa_nil))) pa_nil))) (kx_tup K rfl (n := 2) (by rfl) (pgs_cons (pg_name (i := 5) nd rfl (Or.inr rfl)) (pgs_cons (pg_name (i := 6) nd rfl (Or.inl rfl)) pgs_nil))))
    (pss_cons (ps_asg (pe_tup (pa_cons (pe_callB (kx_reprU K rfl hg (h66 hr)) (by rfl) T.n_repr (by decide +kernel) (pa_cons (pe_lst (pa_cons pe_bl (pa_cons pe_bl (pa_cons pe_bl (pa_cons pe_bl pa_nil))))) pa_nil)) (pa_cons (pe_callB (kx_reprU K rfl hg (h66 hr)) (by rfl) T.n_repr (by decide +kernel) (pa_cons (pe_lst (pa_cons pe_bl (pa_cons pe_bl (pa_cons pe_bl (pa_cons pe_bl pa_nil))))) pa_nil)) pa_nil))) (kx_tup K rfl (n := 2) (by rfl) (pgs_cons (pg_name (i := 7) nd rfl (Or.inl rfl)) (pgs_cons (pg_name (i := 8) nd rfl (Or.inr rfl)) pgs_nil))))
    (pss_cons (ps_set (i := 9) nd rfl (Or.inl rfl) (pe_and (pe_cmpR (kx_eqU K rfl hr.units) (pv 1) (pv 3) (nomark _)) (pe_one (pe_cmpR (kx_eqU K rfl hr.units) (kx_def K rfl C__law_walked (hr.mono (by decide)) rfl T.g__law_walked T.k__law_walked (pa_cons (pv 2) pa_nil)) (kx_def K rfl C__law_walked (hr.mono (by decide)) rfl T.g__law_walked T.k__law_walked (pa_cons (pv 4) pa_nil)) (nomark _)))))
    (pss_cons (ps_if (pt_cmpR (kx_neU K rfl hr.units) (kx_defG K rfl hg C__law_both (hr.mono (by decide)) rfl T.g__law_both T.k__law_both (pa_cons (pv 5) (pa_cons (pv 6) pa_nil))) (pe_ifExp (pt_val (pv 9)) (pv 7) (pv 8)) (nomark _)) (pss_one (ps_ret pe_bl)) pss_nil)
    (pss_cons (ps_if (pt_cmpR (kx_neU K rfl hr.units) (kx_defG K rfl hg C__law_both (hr.mono (by decide)) rfl T.g__law_both T.k__law_both (pa_cons (pv 5) (pa_cons (kx_def K rfl C__law_built (hr.mono (by decide)) rfl T.g__law_built T.k__law_built (pa_cons (pv 1) (pa_cons (kx_def K rfl C__law_walked (hr.mono (by decide)) rfl T.g__law_walked T.k__law_walked (pa_cons (pv 2) pa_nil)) pa_nil))) pa_nil))) (pv 7) (nomark _)) (pss_one (ps_ret pe_bl)) pss_nil)
    (pss_cons (ps_set (i := 10) nd rfl (Or.inl rfl) (pe_lst (pa_cons pe_non (pa_cons pe_int (pa_cons pe_str (pa_cons (pe_lst pa_nil) (pa_cons (kx_prop K rfl (pv 5) T.cl_Service T.p_Service_table C_Service_table (hr.mono (by decide)) rfl) (pa_cons (kx_prop K rfl (pv 5) T.cl_Service T.p_Service_calls C_Service_calls (hr.mono (by decide)) rfl) (pa_cons (pe_tup (pa_cons (pv 5) pa_nil)) (pa_cons pe_dnewK pa_nil))))))))))
    (pss_one (ps_ret (pe_cmpR (kx_eqU K rfl hr.units) (pe_lc (own := [("thing", 11)]) (g := (gName 11)) rfl nd (kx_pi K rfl (pv 10)) (blkOk_by (own := [("thing", 11)]) (N := N__law_fits) (sc := defScope s__law_fits) (by decide +kernel)) (fun _ _ _ _ _ => (pg_name (i := 11) nd rfl (by first | exact Or.inl rfl | exact Or.inr rfl))) (fun _ _ _ _ _ => (pts_one (pt_cmpR (kx_neU K rfl hr.units) (kx_defG K rfl hg C__law_both (hr.mono (by decide)) rfl T.g__law_both T.k__law_both (pa_cons (pv 5) (pa_cons (pv 11) pa_nil))) (pv 8) (nomark _)))) (fun _ _ _ _ _ => pe_int)) (pe_lst pa_nil) (nomark _)))))))))))))))) (fun ds m Q h => ?_)
  replace h := h.2
  clear nd
  obtain ⟨p, c, n, rfl, rfl, hk, hn, q⟩ := h
  have cl := T.cl_Service
  refine sw_free ?_
  walk_at "g"
  refine ew_l2 ?_
  walk_at "g"
  refine tk3 hk fun r1 c1 h1 k1 => ?_
  obtain ⟨v1, hv1, e1⟩ := pick2q 6 10 h1
  refine oi_L e1 ?_
  walk_at "g"
  refine tk3 k1 (fun a1 c2 h2 k2 => ?_) (by omega) (by omega) (by omega)
  have ha : a1 < 10 := by omega
  walk_at "g"
  refine ⟨rfl, p, c2, [], _, 1 + a1, by rw [Int.natCast_add 1 a1]; rfl, rfl, k2, by omega, by omega, fun ws c3 tg k3 => ?_⟩
  walk_at "g"
  refine ew_l2 ?_
  walk_at "g"
  refine tk3 k3 (fun r4 c4 h4 k4 => ?_) (by omega)
  walk_at "g"
  refine oi_L (pick2 6 24 _) ?_
  have hs2 : ∀ b : Bool, (if b = true then (24 : Int) else 6) ≤ 24 ∧ 6 ≤ (if b = true then (24 : Int) else 6) := fun b => by cases b <;> decide
  have hs2 := hs2 (decide ((r4 : Int) = 0))
  walk_at "g"
  refine tk3 k4 (fun a5 c5 h5 k5 => ?_) (by omega) (by omega) (by omega)
  walk_at "g"
  rw [List.length_map, tg.len]
  refine ⟨rfl, p, c5, [], _, 1 + a5, 1 + a1, by rw [Int.natCast_add 1 a5]; rfl, rfl, k5, by omega, by omega, by omega, by omega, fun T0 c6 gA k6 => ?_⟩
  walk_at "g"
  refine (use_far k6 (by omega) (by rw [gA.len]; omega) (fun r hr => by rw [gA.wid r hr]; omega) gA.ans fun f c7 bf k7 => ?_)
  have bA := farT_ans bf
  have cA : Cand ws (farT f T0) := ⟨farT_ok gA.ok f, fun r hr => by rw [farT_wid gA.wid f r hr, tg.len], tg.nm, by rw [farT_len, gA.len]; omega, by rw [tg.len]; omega, fun r hr s hs a ea => by have := bA r hr s hs a ea; omega⟩
  have lA : (farT f T0).length ≤ 25 := by rw [farT_len, gA.len]; omega
  have hw : 0 < ws.length := by rw [tg.len]; omega
  have nd := tg.nd
  generalize farT f T0 = G at bA cA lA
  clear bf gA
  walk_at "g"
  refine ⟨rfl, p, c7, [], _, ws, G, rfl, rfl, k7, by omega, cA, lA, hw, bA, fun ls L c8 cL hl k8 => ?_⟩
  walk_at "g"
  have svA : SvcIn ws G := cA.svi nd
  refine sw_ifJ (fun δ' m' => ∃ (ls' : List Str) (L' : Tab), Cand ls' L' ∧ ls'.Nodup ∧ δ' = [some (.adr p), some (.lst (ws.map .str)), some (tabD G), some (.lst (ls'.map .str)), some (tabD L'), none, none, none, none, none, none, none] ∧ m' = [(p, c8)]) ?_ ?_
  · walk_at "g"
    refine ew_lenSetS ?_
    walk_at "g"
    refine ⟨ls, .of, by have := cL.wl; omega, ?_⟩
    walk_at "g"
    rw [List.length_map]
    refine iteD (fun h => ?_) (fun h => ?_)
    · walk_at "g"
      exact ⟨ws, G, cA, nd, rfl, rfl⟩
    · refine sw_next ⟨ls, L, cL, ?_, rfl, rfl⟩
      have := once_lt ls
      exact Classical.byContradiction fun e => h (by have := this.mpr e; omega)
  clear cL hl
  clear ls L
  rintro δ' m' ⟨ls, L, cL, ndL, rfl, rfl⟩
  have svL : SvcIn ls L := cL.svi ndL
  have srA := svA.srv
  have srL := svL.srv
  have hA25 := cA.tl
  have hL25 := cL.tl
  refine sw_seqJ (fun δ' m' => δ' = [some (.adr p), some (.lst (ws.map .str)), some (tabD G), some (.lst (ls.map .str)), some (tabD L), some (srvD a.c_Service ws (normT G)), some (srvD a.c_Service ls (normT L)), none, none, none, none, none] ∧ m' = [(p, c8)]) ?_ ?_
  · walk_at "g"
    refine ⟨rfl, ws, G, rfl, svA, ?_⟩
    walk_at "g"
    refine ⟨rfl, ls, L, rfl, svL, ?_⟩
    walk_at "g"
    exact ⟨rfl, rfl⟩
  rintro δ' m' ⟨rfl, rfl⟩
  refine sw_seqJ (fun δ' m' => δ' = [some (.adr p), some (.lst (ws.map .str)), some (tabD G), some (.lst (ls.map .str)), some (tabD L), some (srvD a.c_Service ws (normT G)), some (srvD a.c_Service ls (normT L)), some (.str (bothT true)), some (.str (bothT false)), none, none, none] ∧ m' = [(p, c8)]) ?_ ?_
  · walk_at "g"
    refine ew_l4 ?_
    walk_at "g"
    refine cw_both (b := true) ?_
    walk_at "g"
    refine ew_l4 ?_
    walk_at "g"
    refine cw_both (b := false) ?_
    walk_at "g"
    exact ⟨rfl, rfl⟩
  rintro δ' m' ⟨rfl, rfl⟩
  refine sw_seqJ (fun δ' m' => ∃ s : Bool, (s = true ↔ ws = ls ∧ normT G = normT L) ∧ δ' = [some (.adr p), some (.lst (ws.map .str)), some (tabD G), some (.lst (ls.map .str)), some (tabD L), some (srvD a.c_Service ws (normT G)), some (srvD a.c_Service ls (normT L)), some (.str (bothT true)), some (.str (bothT false)), some (.bl s), none, none] ∧ m' = [(p, c8)]) ?_ ?_
  · walk_at "g"
    refine oq_eq 1 (strs_nb srA.str) (strs_nb srL.str) fun b hb => ⟨b, rfl, ?_⟩
    have hwb : b = true ↔ ws = ls := hb.trans ⟨fun e => by injection e with e; exact strD_inj e, fun e => by rw [e]⟩
    refine iteB (fun e => ?_) (fun e => ?_)
    · walk_at "g"
      refine ⟨rfl, G, rfl, cA.ok, by omega, fun r hr => by rw [cA.wid r hr]; have := cA.wl; omega, ?_⟩
      walk_at "g"
      refine ⟨rfl, L, rfl, cL.ok, by omega, fun r hr => by rw [cL.wid r hr]; have := cL.wl; omega, ?_⟩
      refine oq_eq 3 (tabD_nb _) (tabD_nb _) fun c hc => ?_
      exact ⟨c, ⟨fun h => ⟨hwb.mp e, tabD_inj (hc.mp h)⟩, fun h => hc.mpr (by rw [h.2])⟩, rfl, rfl⟩
    · exact ⟨false, ⟨fun h => (by cases h), fun h => (by rw [hwb.mpr h.1] at e; cases e)⟩, by subst e; rfl, rfl⟩
  rintro δ' m' ⟨s, hs, rfl, rfl⟩
  refine sw_seqJ (fun δ' m' => δ' = [some (.adr p), some (.lst (ws.map .str)), some (tabD G), some (.lst (ls.map .str)), some (tabD L), some (srvD a.c_Service ws (normT G)), some (srvD a.c_Service ls (normT L)), some (.str (bothT true)), some (.str (bothT false)), some (.bl s), none, none] ∧ m' = [(p, c8)]) (sw_if ?_) ?_
  · walk_at "g"
    refine ⟨rfl, ws, normT G, _, rfl, srA, .inl ⟨ls, normT L, rfl, srL, fun b hb => ?_⟩⟩
    walk_at "g"
    obtain rfl : b = s := Bool.eq_iff_iff.mpr (hb.trans hs.symm)
    cases b
    · rw [if_neg (by decide)]
      walk_at "g"
      rw [if_neg (by simp)]
      walk_at "g"
      exact ⟨rfl, rfl⟩
    · rw [if_pos rfl]
      walk_at "g"
      rw [if_neg (by simp)]
      walk_at "g"
      exact ⟨rfl, rfl⟩
  rintro δ' m' ⟨rfl, rfl⟩
  refine sw_seq (sw_if ?_)
  walk_at "g"
  refine ⟨rfl, G, rfl, cA.ok, by omega, fun r hr => by rw [cA.wid r hr]; have := cA.wl; omega, ?_⟩
  walk_at "g"
  refine ⟨rfl, ws, normT G, rfl, svA.norm, ?_⟩
  rw [normT_same2 cA.ok]
  walk_at "g"
  refine ⟨rfl, ws, normT G, _, rfl, srA, .inl ⟨ws, normT G, rfl, srA, fun b hb => ?_⟩⟩
  obtain rfl : b = true := hb.mpr ⟨rfl, rfl⟩
  walk_at "g"
  rw [if_neg (by simp)]
  walk_at "g"
  refine ew_l8 ?_
  walk_at "g"
  refine ew_l0 ?_
  walk_at "g"
  refine ew_prop (ew_var rfl ⟨_, rfl, rfl, ws, normT G, rfl, srA.le, ?_⟩)
  refine ew_prop (ew_var rfl ⟨_, rfl, rfl, ws, normT G, rfl, ?_⟩)
  refine ew_tup1 (ew_var rfl ?_)
  refine ew_dnew ?_
  walk_at "g"
  refine ew_lcP (tame_name (by decide)) (iw_any ?_)
  walk_at "g"
  refine ⟨_, .inl rfl, D, [.non, .int 0, .str "", .lst [], tabD (normT G), .lst (ws.map .str), .tup [srvD a.c_Service ws (normT G)], .dic []], fun x => x, fun _ => .int 1, fun _ => false, (List.map_id' _).symm, (Nat.le_of_ble_eq_true rfl), ?_, ?_⟩
  · intro x acc z hx
    have od : OddD ([(p, c8)] ++ [(z, .lst acc)]) x := by
      simp only [List.mem_cons, List.not_mem_nil, or_false] at hx
      rcases hx with rfl | rfl | rfl | rfl | rfl | rfl | rfl | rfl <;> exact True.intro
    walk_at "g"
    refine ⟨rfl, ws, normT G, x, rfl, srA, .inr ⟨od, ?_⟩⟩
    walk_at "g"
    exact ⟨by simp, rfl, fun h => by cases h⟩
  · rw [show List.filter (fun _ => false) _ = ([] : List D) from List.filter_eq_nil_iff.mpr (fun _ _ h => by cases h)]
    walk_at "g"
    refine ew_l0 ?_
    refine oq_eq 1 rfl rfl fun b hb => ?_
    obtain rfl : b = true := hb.mpr rfl
    walk_at "g"
    exact ⟨_, .refl, q _ (k8.up (by omega))⟩

end
end DL

set_option Elab.async false
set_option linter.all false
set_option maxRecDepth 100000
set_option maxHeartbeats 4000000
set_option autoImplicit false
namespace DL
open PySem PySem.Spec PyProof.Rows L2
local macro_rules | `(tactic| walk_at "m") => `(tactic| first
  | with_reducible exact MAt.last | with_reducible exact MUp.last
  | exact MAt.zero | exact MUp.zero | exact MAt.last | exact MUp.last
  | (apply MAt.cons; walk_at "m") | (apply MUp.cons; walk_at "m")
  | (apply MAt.app; walk_at "m") | (apply MUp.app; walk_at "m")
  | assumption)
local macro_rules | `(tactic| walk_at "s1") => `(tactic| with_reducible first
  | refine sw_seq ?_ | refine sw_next ?_ | refine sw_ret ?_ | refine sw_retN ?_ | refine sw_asg ?_ | refine sw_asgG ?_ | refine sw_drop ?_ | refine sw_break ?_ | refine sw_cont ?_ | refine sw_par ?_ | refine sw_par3 ?_
  | refine tw_test ?_ | refine tw_B ?_ | refine tw_and ?_ | refine tw_or ?_ | refine tw_not ?_ | refine tw_yes ?_
  | refine ew_op ?_ | refine ew_un ?_ | refine ew_int ?_ | refine ew_non ?_ | refine ew_bl ?_ | refine ew_str ?_ | refine ew_ty ?_ | refine ew_ref ?_ | refine ew_cb ?_ | refine ew_if ?_ | refine ew_andV ?_ | refine ew_orV ?_ | refine ew_notV ?_ | refine ew_chain ?_ | refine ew_sl ?_ | refine pw_no ?_ | refine pw_part ?_
  | refine ew_call0 ?_ | refine ew_kw0 ?_
  | refine aw_nil ?_ | refine aw_cons ?_ | refine ew_bm ?_ | refine ew_bm0 ?_ | refine gs_L ?_
  | refine gs_nil ?_ | refine gs_cons ?_ | refine gw_name ?_
  | refine ow_addI ?_ | refine ow_odd ?_ | refine ow_i0 ?_ | refine ow_b0 ?_ | refine oq_eqI ?_ | refine oq_neI ?_ | refine oq_eqS ?_ | refine oq_neS ?_ | refine ow_isN ?_ | refine ow_notN ?_ | refine uw_neg ?_ | refine cw_int ?_ | refine cw_intB ?_ | refine cw_abs ?_ | refine cw_mx2 ?_ | refine cw_mn2 ?_ | refine cw_lenL ?_ | refine cw_lenR ?_ | refine cw_listL ?_ | refine cw_listT ?_ | refine lw_L ?_ | refine ew_revL ?_)
local macro_rules | `(tactic| walk_at "s2") => `(tactic| first
  | ((with_reducible refine' ew_var ?hv ?_); (case hv => exact rfl))
  | ((with_reducible refine' oi_M ?hm ?hi ?_); (case hm => walk_at "m"); (case hi => exact rfl))
  | ((with_reducible refine' ow_ixT ?hi ?_); (case hi => exact rfl))
  | ((with_reducible refine' cl_M ?hm ?_); (case hm => walk_at "m"))
  | ((with_reducible refine' ci_M ?hm ?_); (case hm => walk_at "m"))
  | ((with_reducible refine' ma_app ?hm ?ll ?_); (case hm => walk_at "m"); (case ll => walk_at "l"))
  | ((with_reducible refine' And.intro (ty_A ?hm) ?_); (case hm => walk_at "m"))
  | (with_reducible refine' Exists.intro _ (And.intro ?he ?_); (case he => exact rfl))
  | (with_reducible refine' Exists.intro _ (Exists.intro _ (And.intro ?he ?_)); (case he => exact rfl))
  | (with_reducible refine' Exists.intro _ (Exists.intro _ (Exists.intro _ (And.intro ?he ?_))); (case he => exact rfl))
  | ((with_reducible refine' Exists.intro _ (Exists.intro _ (Exists.intro _ (Exists.intro _ (Exists.intro _ (And.intro ?e1 (And.intro ?e2 (And.intro ?hm (And.intro ?hi ?_))))))))); (case e1 => exact rfl); (case e2 => exact rfl); (case hm => walk_at "m"); (case hi => exact rfl)))
local macro_rules | `(tactic| walk_at "l") => `(tactic| first | assumption | exact lt_sz (by omega) | exact lt_sz (by simp only [List.length_map, List.length_append, List.length_cons, List.length_nil, List.length_take, List.length_drop, List.length_range]; omega))
local macro_rules | `(tactic| walk_at "s") => `(tactic| repeat (first | walk_at "s1" | walk_at "s2"))
local macro_rules | `(tactic| walk_at "sx") => `(tactic| with_reducible first
  | refine swx_of ?_ | refine swx_seq ?_ | refine swx_drop ?_ | refine swx_asg ?_ | refine swx_ret ?_ | refine ewx_fun ?_ | refine ewx_meth ?_ | refine ewx_make ?_ | refine ewx_sub ?_)
local macro_rules | `(tactic| walk_at "s") => `(tactic| repeat (first | walk_at "s1" | walk_at "s2" | walk_at "sx"))
local macro_rules | `(tactic| walk_at "g1") => `(tactic| with_reducible first
  | refine ew_tup2 ?_ | refine ew_tup3 ?_ | refine ew_tup4 ?_ | refine ew_fldI ?_ | refine sw_fldA ?_ | refine ew_dget1 ?_ | refine ew_dget2 ?_ | refine ow_isN ?_)
local macro_rules | `(tactic| walk_at "g2") => `(tactic| first
  | ((with_reducible refine' gw_tup ?e ?_); (case e => exact rfl))
  | ((with_reducible refine' oi_L ?e ?_); (case e => exact rfl))
  | ((refine' Exists.intro _ (And.intro ?cl (And.intro ?na (And.intro ?e ?_)))); (case cl => assumption); (case na => assumption); (case e => exact rfl))
  | ((refine' Exists.intro _ (Exists.intro _ (Exists.intro _ (Exists.intro _ (And.intro ?e (And.intro ?hm (And.intro ?cl (And.intro ?na (And.intro ?l ?_))))))))); (case e => exact rfl); (case hm => walk_at "m"); (case cl => assumption); (case na => assumption); (case l => exact Nat.le_of_ble_eq_true rfl)))
local macro_rules | `(tactic| walk_at "g") => `(tactic| repeat (first | walk_at "s1" | walk_at "s2" | walk_at "sx" | walk_at "g1" | walk_at "g2"))

section
variable {P : Program} {w : World} {K : PySem.W.Frag} {mg : Str → Option Value} {base : Heap} {a : Ads}
theorem capR (n : Nat) : ∃ kk : Nat, (if (if (n : Int) < 24 then (n : Int) else 24) > 1 then (if (n : Int) < 24 then (n : Int) else 24) else 1) = (kk : Int) ∧ kk ≤ 24 := by
  by_cases h : (n : Int) < 24
  · rw [if_pos h]
    by_cases h1 : (n : Int) > 1
    · rw [if_pos h1]
      exact ⟨n, rfl, by omega⟩
    · rw [if_neg h1]
      exact ⟨1, rfl, by omega⟩
  · rw [if_neg h, if_pos (by decide)]
    exact ⟨24, rfl, by omega⟩
def F_law : FS := fun ds m Q => ∃ ns : List Int, ds = [.scr ns] ∧ m = [] ∧ ∀ m', Q (.bl true) m'
theorem ok_law (T : Txt K mg a) : DefG P w K mg base 10 a.f_law ["script"] (FSn 1 (F_law)) := by
  have nd := sc_law.nd
  have C__law_fits := ok__law_fits (P := P) (w := w) (base := base) T
  have C__law_kit := ok__law_kit (P := P) (w := w) (base := base) T
  refine defOkG T.h_law sc_law (fun _ _ _ h => h.1) (fun cdv A outer s H hg hr => by exact (pss_cons (ps_for PassesOwn.never rfl (pi_range1 (by rfl) T.n_range (pa_cons (pe_callB (cr_mx2 rfl) (by rfl) T.n_max (by decide +kernel) (pa_cons pe_int (pa_cons (pe_callB (cr_mn2 rfl) (by rfl) T.n_min (by decide +kernel) (pa_cons pe_int (pa_cons (pe_callB (kx_len K rfl) (by rfl) T.n_len (by decide +kernel) (pa_cons (pv 0) pa_nil)) pa_nil))) pa_nil))) pa_nil)) (pg_name (i := 1) nd rfl (Or.inl rfl)) (pss_cons (ps_set (i := 2) nd rfl (Or.inl rfl) (kx_def K rfl C__law_kit (hr.mono (by decide)) rfl T.g__law_kit T.k__law_kit (pa_cons (pv 0) (pa_cons (pv 1) pa_nil))))
    (pss_one (ps_for PassesOwn.never rfl (pi_range1 (by rfl) T.n_range (pa_cons pe_int pa_nil)) (pg_name (i := 3) nd rfl (Or.inl rfl)) (pss_one (ps_if (pt_not (pt_val (kx_defG K rfl hg C__law_fits (hr.mono (by decide)) rfl T.g__law_fits T.k__law_fits (pa_cons (pv 2) pa_nil)))) (pss_one (ps_ret pe_bl)) pss_nil))))))
    (pss_one (ps_ret pe_bl)))) (fun ds m Q h => ?_)
  replace h := h.2
  clear nd
  obtain ⟨ns, rfl, rfl, q⟩ := h
  obtain ⟨kk, ek, hkk⟩ := capR ns.length
  walk_at "g"
  refine sw_forN ?_
  walk_at "g"
  rw [ek]
  refine ⟨kk, rfl, by omega, fun j δ' m' => ∃ x1 x2 x3 : Option D, δ' = [some (.scr ns), x1, x2, x3] ∧ m' = [], ⟨_, _, _, rfl, rfl⟩, ?_, ?_⟩
  · rintro j δ' m' hj ⟨x1, x2, x3, rfl, rfl⟩
    refine gw_name (sw_free ?_)
    walk_at "g"
    refine ⟨rfl, ns, j, rfl, by omega, by omega, fun p c hc => ?_⟩
    walk_at "g"
    refine sw_forN ?_
    walk_at "g"
    refine ⟨2, rfl, by decide, fun i δ' m2 => ∃ (c' : Cell) (x3 : Option D), δ' = [some (.scr ns), some (.int (j : Nat)), some (.adr p), x3] ∧ m2 = [(p, c')] ∧ Kit (26000 * i) c', ⟨c, _, rfl, rfl, hc⟩, ?_, ?_⟩
    · rintro i δ' m2 hi ⟨c', x3, rfl, rfl, kc⟩
      walk_at "g"
      refine sw_if ?_
      walk_at "g"
      refine ⟨rfl, p, c', 26000 * i, rfl, rfl, kc, by omega, fun c2 k2 => ?_⟩
      walk_at "g"
      rw [if_neg (by decide)]
      walk_at "g"
      exact ⟨c2, _, rfl, rfl, k2.up (by omega)⟩
    · rintro δ' m2 ⟨c', x3, rfl, rfl, kc⟩
      exact ⟨[], ⟨[(p, c')], .refl _⟩, _, _, _, rfl, rfl⟩
  · rintro δ' m' ⟨x1, x2, x3, rfl, rfl⟩
    walk_at "g"
    exact q _

end
end DL

set_option Elab.async false
set_option linter.all false
set_option maxRecDepth 100000
set_option maxHeartbeats 4000000
set_option autoImplicit false
namespace DL
open PySem PySem.Spec PyProof.Rows L2
theorem facts {K : PySem.W.Frag} {h : Heap} {mg : Str → Option Value} (X : K.In h) (G : h.Ns mainGlobals mg) {c_CutError : Addr} {c_InvalidName : Addr} {c_Service : Addr} {f_Service___eq__ : Addr} {od0 an0 : Option Addr} {sl0 : Array (Option Value)} {oc0 kV0 dc0 pm0 cd0 ct0 : Value} {f__law_both : Addr} {od1 an1 : Option Addr} {sl1 : Array (Option Value)} {oc1 kV1 dc1 pm1 cd1 ct1 : Value} {f_Service_calls : Addr} {od2 an2 : Option Addr} {sl2 : Array (Option Value)} {oc2 kV2 dc2 pm2 cd2 ct2 : Value} {f_Service_table : Addr} {od3 an3 : Option Addr} {sl3 : Array (Option Value)} {oc3 kV3 dc3 pm3 cd3 ct3 : Value} {f_reached : Addr} {od4 an4 : Option Addr} {sl4 : Array (Option Value)} {oc4 kV4 dc4 pm4 cd4 ct4 : Value} {f_is_state : Addr} {od5 an5 : Option Addr} {sl5 : Array (Option Value)} {oc5 kV5 dc5 pm5 cd5 ct5 : Value} {f_check_table : Addr} {od6 an6 : Option Addr} {sl6 : Array (Option Value)} {oc6 kV6 dc6 pm6 cd6 ct6 : Value} {f_is_name : Addr} {od7 an7 : Option Addr} {sl7 : Array (Option Value)} {oc7 kV7 dc7 pm7 cd7 ct7 : Value} {f_CutError___init__ : Addr} {od8 an8 : Option Addr} {sl8 : Array (Option Value)} {oc8 kV8 dc8 pm8 cd8 ct8 : Value} {f_check_name : Addr} {od9 an9 : Option Addr} {sl9 : Array (Option Value)} {oc9 kV9 dc9 pm9 cd9 ct9 : Value} {f_check_names : Addr} {od10 an10 : Option Addr} {sl10 : Array (Option Value)} {oc10 kV10 dc10 pm10 cd10 ct10 : Value} {f_Service___init__ : Addr} {od11 an11 : Option Addr} {sl11 : Array (Option Value)} {oc11 kV11 dc11 pm11 cd11 ct11 : Value} {f__law_built : Addr} {od12 an12 : Option Addr} {sl12 : Array (Option Value)} {oc12 kV12 dc12 pm12 cd12 ct12 : Value} {f__law_walked : Addr} {od13 an13 : Option Addr} {sl13 : Array (Option Value)} {oc13 kV13 dc13 pm13 cd13 ct13 : Value} {f__law_toss : Addr} {od14 an14 : Option Addr} {sl14 : Array (Option Value)} {oc14 kV14 dc14 pm14 cd14 ct14 : Value} {f__law_changed : Addr} {od15 an15 : Option Addr} {sl15 : Array (Option Value)} {oc15 kV15 dc15 pm15 cd15 ct15 : Value} {f__law_far_answers : Addr} {od16 an16 : Option Addr} {sl16 : Array (Option Value)} {oc16 kV16 dc16 pm16 cd16 ct16 : Value} {f__law_answer : Addr} {od17 an17 : Option Addr} {sl17 : Array (Option Value)} {oc17 kV17 dc17 pm17 cd17 ct17 : Value} {f__law_column : Addr} {od18 an18 : Option Addr} {sl18 : Array (Option Value)} {oc18 kV18 dc18 pm18 cd18 ct18 : Value} {f__law_grid : Addr} {od19 an19 : Option Addr} {sl19 : Array (Option Value)} {oc19 kV19 dc19 pm19 cd19 ct19 : Value} {f__law_tags : Addr} {od20 an20 : Option Addr} {sl20 : Array (Option Value)} {oc20 kV20 dc20 pm20 cd20 ct20 : Value} {f__law_fits : Addr} {od21 an21 : Option Addr} {sl21 : Array (Option Value)} {oc21 kV21 dc21 pm21 cd21 ct21 : Value} {f__law_kit : Addr} {od22 an22 : Option Addr} {sl22 : Array (Option Value)} {oc22 kV22 dc22 pm22 cd22 ct22 : Value} {f_law : Addr} {od23 an23 : Option Addr} {sl23 : Array (Option Value)} {oc23 kV23 dc23 pm23 cd23 ct23 : Value} {nmCutError qqCutError : Str} {NNCutError : Addr} {bsCutError bmCutError subCutError : List Value} {snCutError : List Str} {abCutError : Bool} {colCutError : Option Bool} {ddCutError : Option Addr} {k0CutError k1CutError k2CutError k3CutError k5CutError : Option Value} {nmInvalidName qqInvalidName : Str} {NNInvalidName : Addr} {bsInvalidName bmInvalidName subInvalidName : List Value} {snInvalidName : List Str} {abInvalidName : Bool} {colInvalidName : Option Bool} {ddInvalidName : Option Addr} {k0InvalidName k1InvalidName k2InvalidName k3InvalidName k5InvalidName : Option Value} {q2 : Addr} {rs2 : List Value} {q3 : Addr} {rs3 : List Value} {tk_LETTERS : Tok} {tk_MOST_LETTERS : Tok}
    (ihn : PySem.W.specialIn K (.builtin "object.__class__") "__get__" = some (some (.builtin "getset_descriptor.__get__")))
    (itk : PySem.W.takesIn K (.builtin "object.__class__") = some true)
    (a_CutError : PySem.W.nsIn K mainGlobals "CutError" = some (some (.ref c_CutError)))
    (oe_CutError : K.lookup c_CutError = some (excClassObj nmCutError qqCutError c_CutError NNCutError bsCutError bmCutError true snCutError subCutError abCutError colCutError ddCutError k0CutError k1CutError k2CutError k3CutError k5CutError "ValueError.__new__"))
    (rv_CutError : PySem.HandSPX.refsVE bmCutError = true)
    (sa_CutError : PySem.W.findIn K (.ref c_CutError) "__setattr__" = some (some (.builtin "object.__setattr__")))
    (xb_CutError : PySem.W.subIn K (.ref c_CutError) (.type "BaseException") = some true)
    (ty_CutError : PySem.W.typeIn K (.ref c_CutError) = some (.type "type"))
    (kc_CutError : PySem.W.keepIn K (.ref c_CutError) = true)
    (ei_CutError : PySem.W.findIn K (.ref c_CutError) "__init__" = some (some (.ref f_CutError___init__)))
    (ev_CutError : PySem.W.findIn K (.ref c_CutError) "value" = some none)
    (et_CutError : PySem.W.typeIn K (.ref f_CutError___init__) = some (.type "function"))
    (ga_CutError : PySem.W.findIn K (.ref c_CutError) "__getattribute__" = some (some (.builtin "BaseException.__getattribute__")))
    (gg_CutError : PySem.W.findIn K (.ref c_CutError) "__getattr__" = some none)
    (hd_CutError : PySem.W.hasDictIn K c_CutError = true)
    (iha_CutError : PySem.W.findIn K (.ref c_CutError) "__class__" = some (some (.builtin "object.__class__")))
    (imr_CutError : PySem.W.mroIn K c_CutError (.type "object") = some true)
    (a_InvalidName : PySem.W.nsIn K mainGlobals "InvalidName" = some (some (.ref c_InvalidName)))
    (oe_InvalidName : K.lookup c_InvalidName = some (excClassObj nmInvalidName qqInvalidName c_InvalidName NNInvalidName bsInvalidName bmInvalidName true snInvalidName subInvalidName abInvalidName colInvalidName ddInvalidName k0InvalidName k1InvalidName k2InvalidName k3InvalidName k5InvalidName "ValueError.__new__"))
    (rv_InvalidName : PySem.HandSPX.refsVE bmInvalidName = true)
    (sa_InvalidName : PySem.W.findIn K (.ref c_InvalidName) "__setattr__" = some (some (.builtin "object.__setattr__")))
    (xb_InvalidName : PySem.W.subIn K (.ref c_InvalidName) (.type "BaseException") = some true)
    (ty_InvalidName : PySem.W.typeIn K (.ref c_InvalidName) = some (.type "type"))
    (kc_InvalidName : PySem.W.keepIn K (.ref c_InvalidName) = true)
    (ei_InvalidName : PySem.W.findIn K (.ref c_InvalidName) "__init__" = some (some (.ref f_CutError___init__)))
    (ev_InvalidName : PySem.W.findIn K (.ref c_InvalidName) "value" = some none)
    (et_InvalidName : PySem.W.typeIn K (.ref f_CutError___init__) = some (.type "function"))
    (ga_InvalidName : PySem.W.findIn K (.ref c_InvalidName) "__getattribute__" = some (some (.builtin "BaseException.__getattribute__")))
    (gg_InvalidName : PySem.W.findIn K (.ref c_InvalidName) "__getattr__" = some none)
    (hd_InvalidName : PySem.W.hasDictIn K c_InvalidName = true)
    (iha_InvalidName : PySem.W.findIn K (.ref c_InvalidName) "__class__" = some (some (.builtin "object.__class__")))
    (imr_InvalidName : PySem.W.mroIn K c_InvalidName (.type "object") = some true)
    (a_Service : PySem.W.nsIn K mainGlobals "Service" = some (some (.ref c_Service)))
    (pg_Service : PySem.W.plainGet K c_Service Str.empty = true)
    (hd_Service : PySem.W.hasDictIn K c_Service = true)
    (po_Service : PySem.W.plainOver K c_Service = true)
    (sa_Service : PySem.W.findIn K (.ref c_Service) "__setattr__" = some (some (.builtin "object.__setattr__")))
    (kc_Service : PySem.W.keepIn K (.ref c_Service) = true)
    (na_Service__names : PySem.W.findIn K (.ref c_Service) "_names" = some none)
    (na_Service__places : PySem.W.findIn K (.ref c_Service) "_places" = some none)
    (na_Service__rows : PySem.W.findIn K (.ref c_Service) "_rows" = some none)
    (na_Service_value : PySem.W.findIn K (.ref c_Service) "value" = some none)
    (su_CutError_CutError : PySem.W.subIn K (.ref c_CutError) (.ref c_CutError) = some true)
    (su_CutError_InvalidName : PySem.W.subIn K (.ref c_CutError) (.ref c_InvalidName) = some false)
    (su_InvalidName_CutError : PySem.W.subIn K (.ref c_InvalidName) (.ref c_CutError) = some true)
    (su_InvalidName_InvalidName : PySem.W.subIn K (.ref c_InvalidName) (.ref c_InvalidName) = some true)
    (a0 : PySem.W.findIn K (.ref c_Service) "__eq__" = some (some (.ref f_Service___eq__)))
    (i0 : PySem.W.isFn K (.ref f_Service___eq__) = true)
    (l0 : K.lookup f_Service___eq__ = some ⟨oc0, od0, .func (PySem.W.fnOf "__eq__" "Service.__eq__" (defArgs s_Service___eq__) (defBody s_Service___eq__) (defScope s_Service___eq__) .none kV0 dc0 pm0 an0 cd0 ct0), sl0⟩)
    (c0 : PySem.W.codeIn K cd0 "Service.__eq__" = true)
    (k0 : PySem.W.keepIn K (.ref f_Service___eq__) = true)
    (a1 : PySem.W.nsIn K mainGlobals "_law_both" = some (some (.ref f__law_both)))
    (l1 : K.lookup f__law_both = some ⟨oc1, od1, .func (PySem.W.fnOf "_law_both" "_law_both" (defArgs s__law_both) (defBody s__law_both) (defScope s__law_both) .none kV1 dc1 pm1 an1 cd1 ct1), sl1⟩)
    (c1 : PySem.W.codeIn K cd1 "_law_both" = true)
    (k1 : PySem.W.keepIn K (.ref f__law_both) = true)
    (a2 : PySem.W.findIn K (.ref c_Service) "calls" = some (some (.ref q2)))
    (pr2 : PySem.W.recIn K q2 "property" = some (.ref f_Service_calls :: rs2))
    (pt2 : PySem.W.specialIn K (.ref q2) "__get__" = some (some (.builtin "property.__get__")))
    (px2 : PySem.W.takesIn K (.ref q2) = some true)
    (l2 : K.lookup f_Service_calls = some ⟨oc2, od2, .func (PySem.W.fnOf "calls" "Service.calls" (defArgs s_Service_calls) (defBody s_Service_calls) (defScope s_Service_calls) .none kV2 dc2 pm2 an2 cd2 ct2), sl2⟩)
    (c2 : PySem.W.codeIn K cd2 "Service.calls" = true)
    (k2 : PySem.W.keepIn K (.ref f_Service_calls) = true)
    (a3 : PySem.W.findIn K (.ref c_Service) "table" = some (some (.ref q3)))
    (pr3 : PySem.W.recIn K q3 "property" = some (.ref f_Service_table :: rs3))
    (pt3 : PySem.W.specialIn K (.ref q3) "__get__" = some (some (.builtin "property.__get__")))
    (px3 : PySem.W.takesIn K (.ref q3) = some true)
    (l3 : K.lookup f_Service_table = some ⟨oc3, od3, .func (PySem.W.fnOf "table" "Service.table" (defArgs s_Service_table) (defBody s_Service_table) (defScope s_Service_table) .none kV3 dc3 pm3 an3 cd3 ct3), sl3⟩)
    (c3 : PySem.W.codeIn K cd3 "Service.table" = true)
    (k3 : PySem.W.keepIn K (.ref f_Service_table) = true)
    (a4 : PySem.W.nsIn K mainGlobals "reached" = some (some (.ref f_reached)))
    (l4 : K.lookup f_reached = some ⟨oc4, od4, .func (PySem.W.fnOf "reached" "reached" (defArgs s_reached) (defBody s_reached) (defScope s_reached) .none kV4 dc4 pm4 an4 cd4 ct4), sl4⟩)
    (c4 : PySem.W.codeIn K cd4 "reached" = true)
    (k4 : PySem.W.keepIn K (.ref f_reached) = true)
    (a5 : PySem.W.nsIn K mainGlobals "is_state" = some (some (.ref f_is_state)))
    (l5 : K.lookup f_is_state = some ⟨oc5, od5, .func (PySem.W.fnOf "is_state" "is_state" (defArgs s_is_state) (defBody s_is_state) (defScope s_is_state) .none kV5 dc5 pm5 an5 cd5 ct5), sl5⟩)
    (c5 : PySem.W.codeIn K cd5 "is_state" = true)
    (k5 : PySem.W.keepIn K (.ref f_is_state) = true)
    (a6 : PySem.W.nsIn K mainGlobals "check_table" = some (some (.ref f_check_table)))
    (l6 : K.lookup f_check_table = some ⟨oc6, od6, .func (PySem.W.fnOf "check_table" "check_table" (defArgs s_check_table) (defBody s_check_table) (defScope s_check_table) .none kV6 dc6 pm6 an6 cd6 ct6), sl6⟩)
    (c6 : PySem.W.codeIn K cd6 "check_table" = true)
    (k6 : PySem.W.keepIn K (.ref f_check_table) = true)
    (a7 : PySem.W.nsIn K mainGlobals "is_name" = some (some (.ref f_is_name)))
    (l7 : K.lookup f_is_name = some ⟨oc7, od7, .func (PySem.W.fnOf "is_name" "is_name" (defArgs s_is_name) (defBody s_is_name) (defScope s_is_name) .none kV7 dc7 pm7 an7 cd7 ct7), sl7⟩)
    (c7 : PySem.W.codeIn K cd7 "is_name" = true)
    (k7 : PySem.W.keepIn K (.ref f_is_name) = true)
    (a8 : PySem.W.findIn K (.ref c_CutError) "__init__" = some (some (.ref f_CutError___init__)))
    (i8 : PySem.W.isFn K (.ref f_CutError___init__) = true)
    (l8 : K.lookup f_CutError___init__ = some ⟨oc8, od8, .func (PySem.W.fnOf "__init__" "CutError.__init__" (defArgs s_CutError___init__) (defBody s_CutError___init__) (defScope s_CutError___init__) .none kV8 dc8 pm8 an8 cd8 ct8), sl8⟩)
    (c8 : PySem.W.codeIn K cd8 "CutError.__init__" = true)
    (k8 : PySem.W.keepIn K (.ref f_CutError___init__) = true)
    (a9 : PySem.W.nsIn K mainGlobals "check_name" = some (some (.ref f_check_name)))
    (l9 : K.lookup f_check_name = some ⟨oc9, od9, .func (PySem.W.fnOf "check_name" "check_name" (defArgs s_check_name) (defBody s_check_name) (defScope s_check_name) .none kV9 dc9 pm9 an9 cd9 ct9), sl9⟩)
    (c9 : PySem.W.codeIn K cd9 "check_name" = true)
    (k9 : PySem.W.keepIn K (.ref f_check_name) = true)
    (a10 : PySem.W.nsIn K mainGlobals "check_names" = some (some (.ref f_check_names)))
    (l10 : K.lookup f_check_names = some ⟨oc10, od10, .func (PySem.W.fnOf "check_names" "check_names" (defArgs s_check_names) (defBody s_check_names) (defScope s_check_names) .none kV10 dc10 pm10 an10 cd10 ct10), sl10⟩)
    (c10 : PySem.W.codeIn K cd10 "check_names" = true)
    (k10 : PySem.W.keepIn K (.ref f_check_names) = true)
    (a11 : PySem.W.findIn K (.ref c_Service) "__init__" = some (some (.ref f_Service___init__)))
    (i11 : PySem.W.isFn K (.ref f_Service___init__) = true)
    (mk_Service : PySem.W.makesIn K c_Service = true)
    (l11 : K.lookup f_Service___init__ = some ⟨oc11, od11, .func (PySem.W.fnOf "__init__" "Service.__init__" (defArgs s_Service___init__) (defBody s_Service___init__) (defScope s_Service___init__) .none kV11 dc11 pm11 an11 cd11 ct11), sl11⟩)
    (c11 : PySem.W.codeIn K cd11 "Service.__init__" = true)
    (k11 : PySem.W.keepIn K (.ref f_Service___init__) = true)
    (a12 : PySem.W.nsIn K mainGlobals "_law_built" = some (some (.ref f__law_built)))
    (l12 : K.lookup f__law_built = some ⟨oc12, od12, .func (PySem.W.fnOf "_law_built" "_law_built" (defArgs s__law_built) (defBody s__law_built) (defScope s__law_built) .none kV12 dc12 pm12 an12 cd12 ct12), sl12⟩)
    (c12 : PySem.W.codeIn K cd12 "_law_built" = true)
    (k12 : PySem.W.keepIn K (.ref f__law_built) = true)
    (a13 : PySem.W.nsIn K mainGlobals "_law_walked" = some (some (.ref f__law_walked)))
    (l13 : K.lookup f__law_walked = some ⟨oc13, od13, .func (PySem.W.fnOf "_law_walked" "_law_walked" (defArgs s__law_walked) (defBody s__law_walked) (defScope s__law_walked) .none kV13 dc13 pm13 an13 cd13 ct13), sl13⟩)
    (c13 : PySem.W.codeIn K cd13 "_law_walked" = true)
    (k13 : PySem.W.keepIn K (.ref f__law_walked) = true)
    (a14 : PySem.W.nsIn K mainGlobals "_law_toss" = some (some (.ref f__law_toss)))
    (l14 : K.lookup f__law_toss = some ⟨oc14, od14, .func (PySem.W.fnOf "_law_toss" "_law_toss" (defArgs s__law_toss) (defBody s__law_toss) (defScope s__law_toss) .none kV14 dc14 pm14 an14 cd14 ct14), sl14⟩)
    (c14 : PySem.W.codeIn K cd14 "_law_toss" = true)
    (k14 : PySem.W.keepIn K (.ref f__law_toss) = true)
    (a15 : PySem.W.nsIn K mainGlobals "_law_changed" = some (some (.ref f__law_changed)))
    (l15 : K.lookup f__law_changed = some ⟨oc15, od15, .func (PySem.W.fnOf "_law_changed" "_law_changed" (defArgs s__law_changed) (defBody s__law_changed) (defScope s__law_changed) .none kV15 dc15 pm15 an15 cd15 ct15), sl15⟩)
    (c15 : PySem.W.codeIn K cd15 "_law_changed" = true)
    (k15 : PySem.W.keepIn K (.ref f__law_changed) = true)
    (a16 : PySem.W.nsIn K mainGlobals "_law_far_answers" = some (some (.ref f__law_far_answers)))
    (l16 : K.lookup f__law_far_answers = some ⟨oc16, od16, .func (PySem.W.fnOf "_law_far_answers" "_law_far_answers" (defArgs s__law_far_answers) (defBody s__law_far_answers) (defScope s__law_far_answers) .none kV16 dc16 pm16 an16 cd16 ct16), sl16⟩)
    (c16 : PySem.W.codeIn K cd16 "_law_far_answers" = true)
    (k16 : PySem.W.keepIn K (.ref f__law_far_answers) = true)
    (a17 : PySem.W.nsIn K mainGlobals "_law_answer" = some (some (.ref f__law_answer)))
    (l17 : K.lookup f__law_answer = some ⟨oc17, od17, .func (PySem.W.fnOf "_law_answer" "_law_answer" (defArgs s__law_answer) (defBody s__law_answer) (defScope s__law_answer) .none kV17 dc17 pm17 an17 cd17 ct17), sl17⟩)
    (c17 : PySem.W.codeIn K cd17 "_law_answer" = true)
    (k17 : PySem.W.keepIn K (.ref f__law_answer) = true)
    (a18 : PySem.W.nsIn K mainGlobals "_law_column" = some (some (.ref f__law_column)))
    (l18 : K.lookup f__law_column = some ⟨oc18, od18, .func (PySem.W.fnOf "_law_column" "_law_column" (defArgs s__law_column) (defBody s__law_column) (defScope s__law_column) .none kV18 dc18 pm18 an18 cd18 ct18), sl18⟩)
    (c18 : PySem.W.codeIn K cd18 "_law_column" = true)
    (k18 : PySem.W.keepIn K (.ref f__law_column) = true)
    (a19 : PySem.W.nsIn K mainGlobals "_law_grid" = some (some (.ref f__law_grid)))
    (l19 : K.lookup f__law_grid = some ⟨oc19, od19, .func (PySem.W.fnOf "_law_grid" "_law_grid" (defArgs s__law_grid) (defBody s__law_grid) (defScope s__law_grid) .none kV19 dc19 pm19 an19 cd19 ct19), sl19⟩)
    (c19 : PySem.W.codeIn K cd19 "_law_grid" = true)
    (k19 : PySem.W.keepIn K (.ref f__law_grid) = true)
    (a20 : PySem.W.nsIn K mainGlobals "_law_tags" = some (some (.ref f__law_tags)))
    (l20 : K.lookup f__law_tags = some ⟨oc20, od20, .func (PySem.W.fnOf "_law_tags" "_law_tags" (defArgs s__law_tags) (defBody s__law_tags) (defScope s__law_tags) .none kV20 dc20 pm20 an20 cd20 ct20), sl20⟩)
    (c20 : PySem.W.codeIn K cd20 "_law_tags" = true)
    (k20 : PySem.W.keepIn K (.ref f__law_tags) = true)
    (a21 : PySem.W.nsIn K mainGlobals "_law_fits" = some (some (.ref f__law_fits)))
    (l21 : K.lookup f__law_fits = some ⟨oc21, od21, .func (PySem.W.fnOf "_law_fits" "_law_fits" (defArgs s__law_fits) (defBody s__law_fits) (defScope s__law_fits) .none kV21 dc21 pm21 an21 cd21 ct21), sl21⟩)
    (c21 : PySem.W.codeIn K cd21 "_law_fits" = true)
    (k21 : PySem.W.keepIn K (.ref f__law_fits) = true)
    (a22 : PySem.W.nsIn K mainGlobals "_law_kit" = some (some (.ref f__law_kit)))
    (l22 : K.lookup f__law_kit = some ⟨oc22, od22, .func (PySem.W.fnOf "_law_kit" "_law_kit" (defArgs s__law_kit) (defBody s__law_kit) (defScope s__law_kit) .none kV22 dc22 pm22 an22 cd22 ct22), sl22⟩)
    (c22 : PySem.W.codeIn K cd22 "_law_kit" = true)
    (k22 : PySem.W.keepIn K (.ref f__law_kit) = true)
    (a23 : PySem.W.nsIn K mainGlobals "law" = some (some (.ref f_law)))
    (l23 : K.lookup f_law = some ⟨oc23, od23, .func (PySem.W.fnOf "law" "law" (defArgs s_law) (defBody s_law) (defScope s_law) .none kV23 dc23 pm23 an23 cd23 ct23), sl23⟩)
    (c23 : PySem.W.codeIn K cd23 "law" = true)
    (k23 : PySem.W.keepIn K (.ref f_law) = true)
    (z_abs : PySem.W.nsIn K mainGlobals "abs" = some none)
    (z_all : PySem.W.nsIn K mainGlobals "all" = some none)
    (z_bool : PySem.W.nsIn K mainGlobals "bool" = some none)
    (z_enumerate : PySem.W.nsIn K mainGlobals "enumerate" = some none)
    (z_int : PySem.W.nsIn K mainGlobals "int" = some none)
    (z_isinstance : PySem.W.nsIn K mainGlobals "isinstance" = some none)
    (z_len : PySem.W.nsIn K mainGlobals "len" = some none)
    (z_list : PySem.W.nsIn K mainGlobals "list" = some none)
    (z_max : PySem.W.nsIn K mainGlobals "max" = some none)
    (z_min : PySem.W.nsIn K mainGlobals "min" = some none)
    (z_range : PySem.W.nsIn K mainGlobals "range" = some none)
    (z_repr : PySem.W.nsIn K mainGlobals "repr" = some none)
    (z_set : PySem.W.nsIn K mainGlobals "set" = some none)
    (z_str : PySem.W.nsIn K mainGlobals "str" = some none)
    (w_LETTERS : PySem.W.nsIn K mainGlobals "LETTERS" = some (some (.str "abcdefghijklmnopqrstuvwxyz" tk_LETTERS)))
    (w_MOST_LETTERS : PySem.W.nsIn K mainGlobals "MOST_LETTERS" = some (some (.int 8 tk_MOST_LETTERS)))
    (ine_Service : PySem.W.findIn K (.ref c_Service) "__ne__" = some (some (.builtin "object.__ne__")))
    (inm_Service : PySem.W.mroIn K c_Service (.type "object") = some true)
    (iodd_Service : OddC K c_Service)
    (ioi_Service : OddI K c_Service)
    (iha_Service : PySem.W.findIn K (.ref c_Service) "__class__" = some (some (.builtin "object.__class__")))
    (imr_Service : PySem.W.mroIn K c_Service (.type "object") = some true)
    : Txt K mg { c_CutError := c_CutError, c_InvalidName := c_InvalidName, c_Service := c_Service, f_Service___eq__ := f_Service___eq__, f__law_both := f__law_both, f_Service_calls := f_Service_calls, f_Service_table := f_Service_table, f_reached := f_reached, f_is_state := f_is_state, f_check_table := f_check_table, f_is_name := f_is_name, f_CutError___init__ := f_CutError___init__, f_check_name := f_check_name, f_check_names := f_check_names, f_Service___init__ := f_Service___init__, f__law_built := f__law_built, f__law_walked := f__law_walked, f__law_toss := f__law_toss, f__law_changed := f__law_changed, f__law_far_answers := f__law_far_answers, f__law_answer := f__law_answer, f__law_column := f__law_column, f__law_grid := f__law_grid, f__law_tags := f__law_tags, f__law_fits := f__law_fits, f__law_kit := f__law_kit, f_law := f_law } := {
  n_abs := PySem.W.mg_none_of X G z_abs
  n_all := PySem.W.mg_none_of X G z_all
  n_bool := PySem.W.mg_none_of X G z_bool
  n_enumerate := PySem.W.mg_none_of X G z_enumerate
  n_int := PySem.W.mg_none_of X G z_int
  n_isinstance := PySem.W.mg_none_of X G z_isinstance
  n_len := PySem.W.mg_none_of X G z_len
  n_list := PySem.W.mg_none_of X G z_list
  n_max := PySem.W.mg_none_of X G z_max
  n_min := PySem.W.mg_none_of X G z_min
  n_range := PySem.W.mg_none_of X G z_range
  n_repr := PySem.W.mg_none_of X G z_repr
  n_set := PySem.W.mg_none_of X G z_set
  n_str := PySem.W.mg_none_of X G z_str
  g_LETTERS := ⟨_, PySem.W.mg_of X G w_LETTERS, _, rfl⟩
  g_MOST_LETTERS := ⟨_, PySem.W.mg_of X G w_MOST_LETTERS, _, rfl⟩
  g_CutError := PySem.W.mg_of X G a_CutError
  g_InvalidName := PySem.W.mg_of X G a_InvalidName
  g_Service := PySem.W.mg_of X G a_Service
  cl_Service := ⟨pg_Service, hd_Service, po_Service, sa_Service⟩
  na_Service__names := na_Service__names
  na_Service__places := na_Service__places
  na_Service__rows := na_Service__rows
  na_Service_value := na_Service_value
  er_CutError := ⟨⟨⟨_, _, _, _, _, _, _, _, _, _, _, _, _, _, _, oe_CutError, rv_CutError⟩, sa_CutError, xb_CutError, ty_CutError, kc_CutError⟩, ei_CutError, ev_CutError, et_CutError⟩
  xf_CutError := ⟨ga_CutError, gg_CutError, xb_CutError, hd_CutError⟩
  xc_CutError := ⟨ga_CutError, gg_CutError, xb_CutError, hd_CutError, iha_CutError, ihn, itk, imr_CutError⟩
  su_CutError_CutError := su_CutError_CutError
  su_CutError_InvalidName := su_CutError_InvalidName
  er_InvalidName := ⟨⟨⟨_, _, _, _, _, _, _, _, _, _, _, _, _, _, _, oe_InvalidName, rv_InvalidName⟩, sa_InvalidName, xb_InvalidName, ty_InvalidName, kc_InvalidName⟩, ei_InvalidName, ev_InvalidName, et_InvalidName⟩
  xf_InvalidName := ⟨ga_InvalidName, gg_InvalidName, xb_InvalidName, hd_InvalidName⟩
  xc_InvalidName := ⟨ga_InvalidName, gg_InvalidName, xb_InvalidName, hd_InvalidName, iha_InvalidName, ihn, itk, imr_InvalidName⟩
  su_InvalidName_CutError := su_InvalidName_CutError
  su_InvalidName_InvalidName := su_InvalidName_InvalidName
  h_Service___eq__ := has_mk l0 c0 fun _ _ _ _ _ _ us hl => match us, hl with | [_, _], _ => rfl
  eq_Service := ⟨a0, i0⟩
  h__law_both := has_mk l1 c1 fun _ _ _ _ _ _ us hl => match us, hl with | [_, _], _ => rfl
  g__law_both := PySem.W.mg_of X G a1
  k__law_both := k1
  h_Service_calls := has_mk l2 c2 fun _ _ _ _ _ _ us hl => match us, hl with | [_], _ => rfl
  p_Service_calls := ⟨q2, a2, pt2, px2, _, pr2⟩
  h_Service_table := has_mk l3 c3 fun _ _ _ _ _ _ us hl => match us, hl with | [_], _ => rfl
  p_Service_table := ⟨q3, a3, pt3, px3, _, pr3⟩
  h_reached := has_mk l4 c4 fun _ _ _ _ _ _ us hl => match us, hl with | [_], _ => rfl
  g_reached := PySem.W.mg_of X G a4
  k_reached := k4
  h_is_state := has_mk l5 c5 fun _ _ _ _ _ _ us hl => match us, hl with | [_, _], _ => rfl
  g_is_state := PySem.W.mg_of X G a5
  k_is_state := k5
  h_check_table := has_mk l6 c6 fun _ _ _ _ _ _ us hl => match us, hl with | [_, _], _ => rfl
  g_check_table := PySem.W.mg_of X G a6
  k_check_table := k6
  h_is_name := has_mk l7 c7 fun _ _ _ _ _ _ us hl => match us, hl with | [_], _ => rfl
  g_is_name := PySem.W.mg_of X G a7
  k_is_name := k7
  h_CutError___init__ := has_mk l8 c8 fun _ _ _ _ _ _ us hl => match us, hl with | [_, _], _ => rfl
  h_check_name := has_mk l9 c9 fun _ _ _ _ _ _ us hl => match us, hl with | [_], _ => rfl
  g_check_name := PySem.W.mg_of X G a9
  k_check_name := k9
  h_check_names := has_mk l10 c10 fun _ _ _ _ _ _ us hl => match us, hl with | [_], _ => rfl
  g_check_names := PySem.W.mg_of X G a10
  k_check_names := k10
  h_Service___init__ := has_mk l11 c11 fun _ _ _ _ _ _ us hl => match us, hl with | [_, _, _], _ => rfl
  mk_Service := ⟨mk_Service, a11, i11, kc_Service⟩
  h__law_built := has_mk l12 c12 fun _ _ _ _ _ _ us hl => match us, hl with | [_, _], _ => rfl
  g__law_built := PySem.W.mg_of X G a12
  k__law_built := k12
  h__law_walked := has_mk l13 c13 fun _ _ _ _ _ _ us hl => match us, hl with | [_], _ => rfl
  g__law_walked := PySem.W.mg_of X G a13
  k__law_walked := k13
  h__law_toss := has_mk l14 c14 fun _ _ _ _ _ _ us hl => match us, hl with | [_, _], _ => rfl
  g__law_toss := PySem.W.mg_of X G a14
  k__law_toss := k14
  h__law_changed := has_mk l15 c15 fun _ _ _ _ _ _ us hl => match us, hl with | [_, _, _], _ => rfl
  g__law_changed := PySem.W.mg_of X G a15
  k__law_changed := k15
  h__law_far_answers := has_mk l16 c16 fun _ _ _ _ _ _ us hl => match us, hl with | [_, _], _ => rfl
  g__law_far_answers := PySem.W.mg_of X G a16
  k__law_far_answers := k16
  h__law_answer := has_mk l17 c17 fun _ _ _ _ _ _ us hl => match us, hl with | [_], _ => rfl
  g__law_answer := PySem.W.mg_of X G a17
  k__law_answer := k17
  h__law_column := has_mk l18 c18 fun _ _ _ _ _ _ us hl => match us, hl with | [_, _], _ => rfl
  g__law_column := PySem.W.mg_of X G a18
  k__law_column := k18
  h__law_grid := has_mk l19 c19 fun _ _ _ _ _ _ us hl => match us, hl with | [_, _, _], _ => rfl
  g__law_grid := PySem.W.mg_of X G a19
  k__law_grid := k19
  h__law_tags := has_mk l20 c20 fun _ _ _ _ _ _ us hl => match us, hl with | [_, _], _ => rfl
  g__law_tags := PySem.W.mg_of X G a20
  k__law_tags := k20
  h__law_fits := has_mk l21 c21 fun _ _ _ _ _ _ us hl => match us, hl with | [_], _ => rfl
  g__law_fits := PySem.W.mg_of X G a21
  k__law_fits := k21
  h__law_kit := has_mk l22 c22 fun _ _ _ _ _ _ us hl => match us, hl with | [_, _], _ => rfl
  g__law_kit := PySem.W.mg_of X G a22
  k__law_kit := k22
  h_law := has_mk l23 c23 fun _ _ _ _ _ _ us hl => match us, hl with | [_], _ => rfl
  g_law := PySem.W.mg_of X G a23
  k_law := k23
  ne_Service := ⟨ine_Service, inm_Service⟩
  odd_Service := iodd_Service
  oi_Service := ioi_Service
  io_Service := ⟨iha_Service, ihn, itk, imr_Service⟩
  b_law := law_mk l23 fun _ => rfl
}
theorem whole {l : PySem.W.OpenLaw} {w : World} {K : PySem.W.Frag} {h : Heap} {mg : Str → Option Value} {fa : Addr} {a : Ads} (X : K.In h) (G : h.Ns mainGlobals mg) (hfa : mg "law" = some (.ref fa)) (T : Txt K mg a) :
    ∃ fd : FuncData, (∀ (s : Shared) (v : Value), BindsTo s fd ⟨[v], []⟩ [("script", v)]) ∧ ∀ base : Heap, K.In base → base.Ns mainGlobals mg → FnG l.prog w K mg base 10 fa fd ["script"] (spOf K (FSn 1 (F_law))) := by
  have e := hfa.symm.trans T.g_law
  cases e
  obtain ⟨fd, F, _⟩ := T.h_law
  refine ⟨fd, T.b_law fd (Fnc.fdAt F), fun base _ _ => ?_⟩
  obtain ⟨fd2, F2, _, e2⟩ := ok_law (P := l.prog) (w := w) (base := base) T
  rw [fdAt_inj (Fnc.fdAt F) e2]
  first | exact F2 | exact FnG.of F2
end DL
open PySem PySem.W PyProof.Rows in
set_option maxRecDepth 100000 in
set_option maxHeartbeats 0 in
theorem PySem.Challenge.cw_anycut_k04_equal_services_holds : PySem.Challenge.rw_anycut_k04_equal_services.Holds := by
  w_on; o_law; k_head; (case hw => w_witness2)
  k_fill
  refine DL.walk_at_law (l := PySem.Challenge.rw_anycut_k04_equal_services) (k := 10) (Pf := DL.FSn 1 (DL.F_law)) (x := "script") rfl (by decide) rfl ⟨rfl, by decide, by decide⟩ (fun w h Y => by first | exact PySem.W.kIn_of Y | exact PySem.W.km_in_of Y) ?F (fun ns _ _ => by first | exact ⟨rfl, ns, rfl, fun _ => rfl⟩ | exact ⟨rfl, ns, rfl, rfl, fun _ => rfl⟩)
  case F =>
    intro w mg fa h KX G hmg
    refine DL.whole KX G hmg (a := { c_CutError := ?_, c_InvalidName := ?_, c_Service := ?_, f_Service___eq__ := ?_, f__law_both := ?_, f_Service_calls := ?_, f_Service_table := ?_, f_reached := ?_, f_is_state := ?_, f_check_table := ?_, f_is_name := ?_, f_CutError___init__ := ?_, f_check_name := ?_, f_check_names := ?_, f_Service___init__ := ?_, f__law_built := ?_, f__law_walked := ?_, f__law_toss := ?_, f__law_changed := ?_, f__law_far_answers := ?_, f__law_answer := ?_, f__law_column := ?_, f__law_grid := ?_, f__law_tags := ?_, f__law_fits := ?_, f__law_kit := ?_, f_law := ?_ }) ?T
    case T =>
      refine' DL.facts KX G ?x_ihn ?x_itk ?x_a_CutError ?x_oe_CutError ?x_rv_CutError ?x_sa_CutError ?x_xb_CutError ?x_ty_CutError ?x_kc_CutError ?x_ei_CutError ?x_ev_CutError ?x_et_CutError ?x_ga_CutError ?x_gg_CutError ?x_hd_CutError ?x_iha_CutError ?x_imr_CutError ?x_a_InvalidName ?x_oe_InvalidName ?x_rv_InvalidName ?x_sa_InvalidName ?x_xb_InvalidName ?x_ty_InvalidName ?x_kc_InvalidName ?x_ei_InvalidName ?x_ev_InvalidName ?x_et_InvalidName ?x_ga_InvalidName ?x_gg_InvalidName ?x_hd_InvalidName ?x_iha_InvalidName ?x_imr_InvalidName ?x_a_Service ?x_pg_Service ?x_hd_Service ?x_po_Service ?x_sa_Service ?x_kc_Service ?x_na_Service__names ?x_na_Service__places ?x_na_Service__rows ?x_na_Service_value ?x_su_CutError_CutError ?x_su_CutError_InvalidName ?x_su_InvalidName_CutError ?x_su_InvalidName_InvalidName ?x_a0 ?x_i0 ?x_l0 ?x_c0 ?x_k0 ?x_a1 ?x_l1 ?x_c1 ?x_k1 ?x_a2 ?x_pr2 ?x_pt2 ?x_px2 ?x_l2 ?x_c2 ?x_k2 ?x_a3 ?x_pr3 ?x_pt3 ?x_px3 ?x_l3 ?x_c3 ?x_k3 ?x_a4 ?x_l4 ?x_c4 ?x_k4 ?x_a5 ?x_l5 ?x_c5 ?x_k5 ?x_a6 ?x_l6 ?x_c6 ?x_k6 ?x_a7 ?x_l7 ?x_c7 ?x_k7 ?x_a8 ?x_i8 ?x_l8 ?x_c8 ?x_k8 ?x_a9 ?x_l9 ?x_c9 ?x_k9 ?x_a10 ?x_l10 ?x_c10 ?x_k10 ?x_a11 ?x_i11 ?x_mk_Service ?x_l11 ?x_c11 ?x_k11 ?x_a12 ?x_l12 ?x_c12 ?x_k12 ?x_a13 ?x_l13 ?x_c13 ?x_k13 ?x_a14 ?x_l14 ?x_c14 ?x_k14 ?x_a15 ?x_l15 ?x_c15 ?x_k15 ?x_a16 ?x_l16 ?x_c16 ?x_k16 ?x_a17 ?x_l17 ?x_c17 ?x_k17 ?x_a18 ?x_l18 ?x_c18 ?x_k18 ?x_a19 ?x_l19 ?x_c19 ?x_k19 ?x_a20 ?x_l20 ?x_c20 ?x_k20 ?x_a21 ?x_l21 ?x_c21 ?x_k21 ?x_a22 ?x_l22 ?x_c22 ?x_k22 ?x_a23 ?x_l23 ?x_c23 ?x_k23 ?x_z_abs ?x_z_all ?x_z_bool ?x_z_enumerate ?x_z_int ?x_z_isinstance ?x_z_len ?x_z_list ?x_z_max ?x_z_min ?x_z_range ?x_z_repr ?x_z_set ?x_z_str ?x_w_LETTERS ?x_w_MOST_LETTERS ?x_ine_Service ?x_inm_Service ?x_iodd_Service ?x_ioi_Service ?x_iha_Service ?x_imr_Service
      (case x_ihn => k_is)
      (case x_itk => k_is)
      (case x_a_CutError => k_is)
      (case x_oe_CutError => k_is)
      (case x_rv_CutError => decide +kernel)
      (case x_sa_CutError => k_is)
      (case x_xb_CutError => k_is)
      (case x_ty_CutError => k_is)
      (case x_kc_CutError => k_is)
      (case x_ei_CutError => k_is)
      (case x_ev_CutError => k_is)
      (case x_et_CutError => k_is)
      (case x_ga_CutError => k_is)
      (case x_gg_CutError => k_is)
      (case x_hd_CutError => k_is)
      (case x_iha_CutError => k_is)
      (case x_imr_CutError => k_is)
      (case x_a_InvalidName => k_is)
      (case x_oe_InvalidName => k_is)
      (case x_rv_InvalidName => decide +kernel)
      (case x_sa_InvalidName => k_is)
      (case x_xb_InvalidName => k_is)
      (case x_ty_InvalidName => k_is)
      (case x_kc_InvalidName => k_is)
      (case x_ei_InvalidName => k_is)
      (case x_ev_InvalidName => k_is)
      (case x_et_InvalidName => k_is)
      (case x_ga_InvalidName => k_is)
      (case x_gg_InvalidName => k_is)
      (case x_hd_InvalidName => k_is)
      (case x_iha_InvalidName => k_is)
      (case x_imr_InvalidName => k_is)
      (case x_a_Service => k_is)
      (case x_pg_Service => k_is)
      (case x_hd_Service => k_is)
      (case x_po_Service => k_is)
      (case x_sa_Service => k_is)
      (case x_kc_Service => k_is)
      (case x_na_Service__names => k_is)
      (case x_na_Service__places => k_is)
      (case x_na_Service__rows => k_is)
      (case x_na_Service_value => k_is)
      (case x_su_CutError_CutError => k_is)
      (case x_su_CutError_InvalidName => k_is)
      (case x_su_InvalidName_CutError => k_is)
      (case x_su_InvalidName_InvalidName => k_is)
      (case x_a0 => k_is)
      (case x_i0 => k_is)
      (case x_l0 => k_is)
      (case x_c0 => k_is)
      (case x_k0 => k_is)
      (case x_a1 => k_is)
      (case x_l1 => k_is)
      (case x_c1 => k_is)
      (case x_k1 => k_is)
      (case x_a2 => k_is)
      (case x_pr2 => k_is)
      (case x_pt2 => k_is)
      (case x_px2 => k_is)
      (case x_l2 => k_is)
      (case x_c2 => k_is)
      (case x_k2 => k_is)
      (case x_a3 => k_is)
      (case x_pr3 => k_is)
      (case x_pt3 => k_is)
      (case x_px3 => k_is)
      (case x_l3 => k_is)
      (case x_c3 => k_is)
      (case x_k3 => k_is)
      (case x_a4 => k_is)
      (case x_l4 => k_is)
      (case x_c4 => k_is)
      (case x_k4 => k_is)
      (case x_a5 => k_is)
      (case x_l5 => k_is)
      (case x_c5 => k_is)
      (case x_k5 => k_is)
      (case x_a6 => k_is)
      (case x_l6 => k_is)
      (case x_c6 => k_is)
      (case x_k6 => k_is)
      (case x_a7 => k_is)
      (case x_l7 => k_is)
      (case x_c7 => k_is)
      (case x_k7 => k_is)
      (case x_a8 => k_is)
      (case x_i8 => k_is)
      (case x_l8 => k_is)
      (case x_c8 => k_is)
      (case x_k8 => k_is)
      (case x_a9 => k_is)
      (case x_l9 => k_is)
      (case x_c9 => k_is)
      (case x_k9 => k_is)
      (case x_a10 => k_is)
      (case x_l10 => k_is)
      (case x_c10 => k_is)
      (case x_k10 => k_is)
      (case x_a11 => k_is)
      (case x_i11 => k_is)
      (case x_mk_Service => k_is)
      (case x_l11 => k_is)
      (case x_c11 => k_is)
      (case x_k11 => k_is)
      (case x_a12 => k_is)
      (case x_l12 => k_is)
      (case x_c12 => k_is)
      (case x_k12 => k_is)
      (case x_a13 => k_is)
      (case x_l13 => k_is)
      (case x_c13 => k_is)
      (case x_k13 => k_is)
      (case x_a14 => k_is)
      (case x_l14 => k_is)
      (case x_c14 => k_is)
      (case x_k14 => k_is)
      (case x_a15 => k_is)
      (case x_l15 => k_is)
      (case x_c15 => k_is)
      (case x_k15 => k_is)
      (case x_a16 => k_is)
      (case x_l16 => k_is)
      (case x_c16 => k_is)
      (case x_k16 => k_is)
      (case x_a17 => k_is)
      (case x_l17 => k_is)
      (case x_c17 => k_is)
      (case x_k17 => k_is)
      (case x_a18 => k_is)
      (case x_l18 => k_is)
      (case x_c18 => k_is)
      (case x_k18 => k_is)
      (case x_a19 => k_is)
      (case x_l19 => k_is)
      (case x_c19 => k_is)
      (case x_k19 => k_is)
      (case x_a20 => k_is)
      (case x_l20 => k_is)
      (case x_c20 => k_is)
      (case x_k20 => k_is)
      (case x_a21 => k_is)
      (case x_l21 => k_is)
      (case x_c21 => k_is)
      (case x_k21 => k_is)
      (case x_a22 => k_is)
      (case x_l22 => k_is)
      (case x_c22 => k_is)
      (case x_k22 => k_is)
      (case x_a23 => k_is)
      (case x_l23 => k_is)
      (case x_c23 => k_is)
      (case x_k23 => k_is)
      (case x_z_abs => k_is)
      (case x_z_all => k_is)
      (case x_z_bool => k_is)
      (case x_z_enumerate => k_is)
      (case x_z_int => k_is)
      (case x_z_isinstance => k_is)
      (case x_z_len => k_is)
      (case x_z_list => k_is)
      (case x_z_max => k_is)
      (case x_z_min => k_is)
      (case x_z_range => k_is)
      (case x_z_repr => k_is)
      (case x_z_set => k_is)
      (case x_z_str => k_is)
      (case x_w_LETTERS => k_is)
      (case x_w_MOST_LETTERS => k_is)
      (case x_ine_Service => k_is)
      (case x_inm_Service => k_is)
      (case x_iodd_Service => (unfold DL.OddC; kernel_rfl))
      (case x_ioi_Service => (unfold DL.OddI; kernel_rfl))
      (case x_iha_Service => k_is)
      (case x_imr_Service => k_is)
#print axioms PySem.Challenge.cw_anycut_k04_equal_services_holds

