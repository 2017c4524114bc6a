import PyProof.Rows.All
import Wide.All
import OpenK.AllK
import Wide.FinOn
import HandS.ForSpec
import HandS.ForMost
import HandS.HeadHook1
import KE.KStateDown
import Lean
import HandS.Base
import HandS.Call
import HandS.Ends
import HandS.More
import HandS.Words
import HandS.WordsExc
import HandS.Defaults
import HandS.Spec
import HandS.Head0
import HandS.Head1
import HandS.Head2
import HandS.Head3
import HandS.Head4
import HandS.HeadEnd
import HandS.HeadHook2
import HandS.HeadHook3
import HandS.HeadHook4
import HandS.Flow
import HandS.NoneIn
import HandS.TupAny
import HandS.TupLe
import HandS.Conv
import HandS.Codes
import HandS.CallLocal
import HandS.DictComp
import HandS.SortInts
import HandS.NestedK
import HandS.Zip
import HandS.WideBits
import HandS.Strs
import HandS.DictTup
import HandS.ListItems
import HandS.SortKw
import KE.KEqDict
import PyProof.AutoSeq1
import HandS.Lambda
import HandS.EndTab
import HandS.TupSets
import HandS.SetFor
import KE.GoesEnum
import HandS.Iter
import HandS.SortRule
import KE.KItemsList
import KE.KDictSum
import HandS.Text
import HandS.Nested
import PyProof.Rows.TupDisplay
import PySem.Challenge.RW_plotversions_s01_answers
set_option Elab.async false
section
set_option linter.all false
set_option maxRecDepth 100000
namespace Pv
open Kvg9
/-! ### sorted lists -/
theorem strict_ext {l m : List Nat} (h1 : l.Pairwise (· < ·)) (h2 : m.Pairwise (· < ·)) (h : ∀ x, x ∈ l ↔ x ∈ m) : l = m := by
  refine List.Perm.eq_of_pairwise (le := (· < ·)) (fun a b _ _ x y => by omega) h1 h2 ?_
  refine (List.perm_ext_iff_of_nodup ?_ ?_).mpr h
  · exact List.nodup_iff_pairwise_ne.mpr (h1.imp fun x => Nat.ne_of_lt x)
  · exact List.nodup_iff_pairwise_ne.mpr (h2.imp fun x => Nat.ne_of_lt x)
theorem strict_extI {l m : List Int} (h1 : l.Pairwise (· < ·)) (h2 : m.Pairwise (· < ·)) (h : ∀ x, x ∈ l ↔ x ∈ m) : l = m := by
  refine List.Perm.eq_of_pairwise (le := (· < ·)) (fun a b _ _ x y => by omega) h1 h2 ?_
  refine (List.perm_ext_iff_of_nodup ?_ ?_).mpr h
  · exact List.nodup_iff_pairwise_ne.mpr (h1.imp fun x => Int.ne_of_lt x)
  · exact List.nodup_iff_pairwise_ne.mpr (h2.imp fun x => Int.ne_of_lt x)
/-! ### versions -/
def Srt (v : Version) : Prop := v.Pairwise fun a b => a.id < b.id
theorem find_mem {v : Version} {n : Nat} {f : Feature} (h : find v n = some f) : f ∈ v ∧ f.id = n := by
  unfold find at h
  exact ⟨List.mem_of_find?_eq_some h, by simpa using List.find?_some h⟩
theorem find_none {v : Version} {n : Nat} (h : find v n = none) : ∀ f ∈ v, f.id ≠ n := by
  unfold find at h
  rw [List.find?_eq_none] at h
  intro f hf e
  exact h f hf (by simp [e])
theorem find_cons (g : Feature) (v : Version) (n : Nat) : find (g :: v) n = if g.id = n then some g else find v n := by
  unfold find
  rw [List.find?_cons]
  by_cases h : g.id = n
  · simp [h]
  · have : (g.id == n) = false := by simp [h]
    simp [this, h]
theorem find_nil (n : Nat) : find [] n = none := rfl
theorem Srt.tail {g : Feature} {v : Version} (h : Srt (g :: v)) : Srt v := (List.pairwise_cons.mp h).2
theorem Srt.head {g : Feature} {v : Version} (h : Srt (g :: v)) : ∀ f ∈ v, g.id < f.id := (List.pairwise_cons.mp h).1
theorem find_of_mem : ∀ {v : Version} (s : Srt v) {f : Feature}, f ∈ v → find v f.id = some f
  | [], _, _, h => by simp at h
  | g :: v, s, f, h => by
    rw [find_cons]
    rcases List.mem_cons.mp h with e | m
    · rw [if_pos (by rw [e]), e]
    · rw [if_neg (Nat.ne_of_lt (s.head f m))]
      exact find_of_mem s.tail m
theorem find_isSome {v : Version} {n : Nat} : (find v n).isSome = true ↔ ∃ f ∈ v, f.id = n := by
  cases h : find v n with
  | none => simp; exact find_none h
  | some f => simp; exact ⟨f, find_mem h⟩
theorem mem_ins {f g : Feature} : ∀ {v : Version}, g ∈ insertFeature f v → g = f ∨ g ∈ v
  | [], h => by simp [insertFeature] at h; exact .inl h
  | a :: v, h => by
    unfold insertFeature at h
    split at h
    · simp at h; rcases h with h | h | h <;> simp [h]
    · split at h
      · simp at h; rcases h with h | h <;> simp [h]
      · simp at h
        rcases h with h | h
        · simp [h]
        · rcases mem_ins h with e | e <;> simp [e]
theorem srt_ins {f : Feature} : ∀ {v : Version}, Srt v → Srt (insertFeature f v)
  | [], _ => by simp [insertFeature, Srt]
  | a :: v, s => by
    unfold insertFeature
    split
    · rename_i h
      refine List.pairwise_cons.mpr ⟨fun b hb => ?_, s⟩
      rcases List.mem_cons.mp hb with e | m
      · rw [e]; exact h
      · exact Nat.lt_trans h (s.head b m)
    · split
      · rename_i h1 h
        exact List.pairwise_cons.mpr ⟨fun b hb => by rw [h]; exact s.head b hb, s.tail⟩
      · rename_i h1 h2
        refine List.pairwise_cons.mpr ⟨fun b hb => ?_, srt_ins s.tail⟩
        rcases mem_ins hb with e | m
        · rw [e]; omega
        · exact s.head b m
theorem find_ins {f : Feature} {n : Nat} : ∀ {v : Version}, Srt v → find (insertFeature f v) n = if n = f.id then some f else find v n
  | [], _ => by
    unfold insertFeature
    rw [find_cons, find_nil]
    by_cases h : n = f.id <;> simp [h]
    intro z; exact absurd z.symm h
  | a :: v, s => by
    unfold insertFeature
    split
    · rename_i h
      rw [find_cons]
      by_cases e : n = f.id
      · simp [e]
      · rw [if_neg (fun z => e z.symm), if_neg e]
    · split
      · rename_i h1 h
        rw [find_cons, find_cons]
        by_cases e : n = f.id
        · simp [e]
        · rw [if_neg (fun z => e z.symm), if_neg e, if_neg (by rw [← h]; exact fun z => e z.symm)]
      · rename_i h1 h2
        rw [find_cons, find_cons, find_ins s.tail]
        by_cases e : a.id = n
        · rw [if_pos e, if_pos e, if_neg (by omega)]
        · rw [if_neg e, if_neg e]
theorem len_ins {f : Feature} : ∀ {v : Version}, Srt v → (insertFeature f v).length = if (find v f.id).isSome then v.length else v.length + 1
  | [], _ => by simp [insertFeature, find_nil]
  | a :: v, s => by
    unfold insertFeature
    rw [find_cons]
    split
    · rename_i h
      rw [if_neg (show ¬ a.id = f.id by omega)]
      have : find v f.id = none := by
        cases e : find v f.id with
        | none => rfl
        | some g =>
          have h3 := find_mem e
          have h4 := s.head g h3.1
          omega
      simp [this]
    · split
      · rename_i h1 h
        rw [if_pos h.symm]; simp
      · rename_i h1 h2
        rw [List.length_cons, len_ins s.tail, if_neg (show ¬ a.id = f.id from fun z => h2 z.symm)]
        split <;> simp
theorem srt_rem {v : Version} {n : Nat} (s : Srt v) : Srt (removeFeature v n) := List.Pairwise.filter _ s
theorem find_rem {n m : Nat} : ∀ {v : Version}, find (removeFeature v n) m = if m = n then none else find v m
  | [] => by simp [removeFeature, find_nil]
  | a :: v => by
    have ih := find_rem (n := n) (m := m) (v := v)
    unfold removeFeature at ih ⊢
    rw [List.filter_cons]
    by_cases h : a.id = n
    · have e : (a.id != n) = false := by simp [h]
      rw [e, if_neg (by simp), ih, find_cons]
      by_cases q : m = n
      · simp [q]
      · rw [if_neg q, if_neg q, if_neg (by omega)]
    · have e : (a.id != n) = true := by simp [h]
      rw [e, if_pos rfl, find_cons, find_cons, ih]
      by_cases q : a.id = m
      · rw [if_pos q, if_pos q, if_neg (by omega)]
      · rw [if_neg q, if_neg q]
theorem len_rem {n : Nat} : ∀ {v : Version}, Srt v → (find v n).isSome → (removeFeature v n).length = v.length - 1
  | [], _, h => by simp [find_nil] at h
  | a :: v, s, h => by
    rw [find_cons] at h
    unfold removeFeature
    rw [List.filter_cons]
    by_cases q : a.id = n
    · have e : (a.id != n) = false := by simp [q]
      rw [e, if_neg (by simp)]
      have : List.filter (fun f => f.id != n) v = v := List.filter_eq_self.mpr fun f hf => by
        have := s.head f hf
        simp; omega
      rw [this]; simp
    · have e : (a.id != n) = true := by simp [q]
      rw [if_neg q] at h
      have := len_rem s.tail h
      unfold removeFeature at this
      rw [e, if_pos rfl, List.length_cons, this, List.length_cons]
      have : v ≠ [] := by intro z; rw [z] at h; simp [find_nil] at h
      have : 0 < v.length := List.length_pos_iff.mpr this
      omega
/-- sorted versions are told by what is found in them -/
theorem ver_ext {v w : Version} (s : Srt v) (t : Srt w) (h : ∀ n, find v n = find w n) : v = w := by
  have nd : ∀ {u : Version}, Srt u → u.Nodup := fun {u} q => List.nodup_iff_pairwise_ne.mpr (q.imp fun x y => by rw [y] at x; exact Nat.lt_irrefl _ x)
  refine List.Perm.eq_of_pairwise (le := fun (a b : Feature) => a.id < b.id) (fun a b _ _ x y => by omega) s t ((List.perm_ext_iff_of_nodup (nd s) (nd t)).mpr fun f => ⟨fun m => ?_, fun m => ?_⟩)
  · have e := find_of_mem s m
    rw [h] at e
    exact (find_mem e).1
  · have e := find_of_mem t m
    rw [← h] at e
    exact (find_mem e).1
theorem ids_strict {v : Version} (s : Srt v) : (v.map Feature.id).Pairwise (· < ·) := by
  rw [List.pairwise_map]
  exact s
theorem mem_ids {v : Version} {n : Nat} : n ∈ v.map Feature.id ↔ (find v n).isSome = true := by
  rw [find_isSome, List.mem_map]
/-! ### all ids -/
theorem mem_insId {x n : Nat} : ∀ {l : List Nat}, x ∈ insertId n l ↔ x = n ∨ x ∈ l
  | [] => by simp [insertId]
  | i :: l => by
    unfold insertId
    split
    · simp
    · split
      · rename_i h
        rw [h]
        constructor
        · intro z; exact .inr z
        · rintro (z | z)
          · rw [z]; simp
          · exact z
      · simp [mem_insId (l := l)]
        constructor
        · rintro (z | z | z) <;> simp [z]
        · rintro (z | z | z) <;> simp [z]
theorem insId_strict {n : Nat} : ∀ {l : List Nat}, l.Pairwise (· < ·) → (insertId n l).Pairwise (· < ·)
  | [], _ => by simp [insertId]
  | i :: l, s => by
    have ⟨h1, h2⟩ := List.pairwise_cons.mp s
    unfold insertId
    split
    · rename_i h
      refine List.pairwise_cons.mpr ⟨fun b hb => ?_, s⟩
      rcases List.mem_cons.mp hb with e | m
      · rw [e]; exact h
      · exact Nat.lt_trans h (h1 b m)
    · split
      · exact s
      · refine List.pairwise_cons.mpr ⟨fun b hb => ?_, insId_strict h2⟩
        rcases mem_insId.mp hb with e | m
        · omega
        · exact h1 b m
theorem idsOf_fold : ∀ (ids l : List Nat), l.Pairwise (· < ·) → (ids.foldl (fun l id => insertId id l) l).Pairwise (· < ·) ∧ ∀ x, x ∈ ids.foldl (fun l id => insertId id l) l ↔ x ∈ ids ∨ x ∈ l
  | [], l, s => ⟨s, fun x => by simp⟩
  | i :: ids, l, s => by
    have h := idsOf_fold ids (insertId i l) (insId_strict s)
    refine ⟨h.1, fun x => ?_⟩
    rw [List.foldl_cons, h.2, mem_insId]
    simp
    constructor
    · rintro (z | z | z) <;> simp [z]
    · rintro ((z | z) | z) <;> simp [z]
theorem idsOf_strict (vs : List Version) : (idsOf vs).Pairwise (· < ·) := (idsOf_fold _ [] .nil).1
theorem mem_idsOf {vs : List Version} {x : Nat} : x ∈ idsOf vs ↔ ∃ v ∈ vs, (find v x).isSome = true := by
  unfold idsOf
  rw [(idsOf_fold _ [] .nil).2]
  simp only [List.not_mem_nil, or_false, List.mem_map, List.mem_flatten]
  constructor
  · rintro ⟨f, ⟨v, hv, hf⟩, e⟩
    exact ⟨v, hv, find_isSome.mpr ⟨f, hf, e⟩⟩
  · rintro ⟨v, hv, h⟩
    obtain ⟨f, hf, e⟩ := find_isSome.mp h
    exact ⟨f, ⟨v, hv, hf⟩, e⟩
theorem idsOf_len {vs : List Version} : (idsOf vs).length ≤ (vs.map List.length).sum := by
  have : ∀ (ids l : List Nat), (ids.foldl (fun l id => insertId id l) l).length ≤ ids.length + l.length := by
    intro ids
    induction ids with
    | nil => intro l; simp
    | cons i ids ih =>
      intro l
      have h : ∀ {l : List Nat}, (insertId i l).length ≤ l.length + 1 := by
        intro l
        induction l with
        | nil => simp [insertId]
        | cons a l ih => unfold insertId; split; simp; split; simp; simp; omega
      have := ih (insertId i l)
      have := h (l := l)
      simp at *; omega
  have h := this (vs.flatten.map Feature.id) []
  unfold idsOf
  rw [List.length_map, List.length_flatten, List.length_nil] at h
  exact h
end Pv
end
section
set_option Elab.async false
set_option linter.all false
set_option maxRecDepth 100000
set_option maxHeartbeats 2000000
namespace Pv
open PySem PySem.Spec PyProof.Rows L2 Kvg9
open L2 (Dp DpAll)
/-! ### data -/
def dI (l : List Int) : List PyData := l.map PyData.int
def dV (p : Int × Int) : PyData := .tuple [.int p.1, .int p.2]
def dF (f : Feature) : PyData := .tuple [.tuple (dI f.attributes), .tuple (f.vertices.map dV)]
def dO : Option Feature → PyData
  | none => .none
  | some f => dF f
/-- a coding of values by data under which Python's == is equality -/
structure Enc {α : Type} (e : α → PyData) : Prop where
  lay : ∀ a, (e a).canLay0 = true
  dep : ∀ a, (e a).depth ≤ 8
  eq : ∀ a b, PyData.eqv (e a) (e b) = true ↔ a = b
theorem Enc.sh {α : Type} {e : α → PyData} (E : Enc e) (a : α) : SeqAt.shaped (e a) = true := by
  unfold SeqAt.shaped
  rw [E.lay a, decide_eq_true (Nat.le_trans (E.dep a) (by decide))]
  rfl
theorem Enc.eqd {α : Type} [DecidableEq α] {e : α → PyData} (E : Enc e) (a b : α) : PyData.eqv (e a) (e b) = decide (a = b) := by
  by_cases h : a = b
  · rw [decide_eq_true h]; exact (E.eq a b).mpr h
  · rw [decide_eq_false h]
    cases q : PyData.eqv (e a) (e b) with
    | false => rfl
    | true => exact absurd ((E.eq a b).mp q) h
theorem enc_int : Enc PyData.int := ⟨fun _ => rfl, fun _ => Nat.zero_le _, fun a b => by show (a == b) = true ↔ _; simp⟩
theorem eqvAll_map {α : Type} {e : α → PyData} (h : ∀ a b, PyData.eqv (e a) (e b) = true ↔ a = b) : ∀ (l m : List α), PyData.eqvAll (l.map e) (m.map e) = true ↔ l = m
  | [], [] => by simp [PyData.eqvAll]
  | [], _ :: _ => by simp [PyData.eqvAll]
  | _ :: _, [] => by simp [PyData.eqvAll]
  | a :: l, b :: m => by
    show (PyData.eqv (e a) (e b) && PyData.eqvAll (l.map e) (m.map e)) = true ↔ _
    rw [Bool.and_eq_true, h, eqvAll_map h l m]
    simp
theorem layAll_map {α : Type} {e : α → PyData} (h : ∀ a, (e a).canLay0 = true) : ∀ (l : List α), PyData.canLayAll0 (l.map e) = true
  | [] => rfl
  | a :: l => by
    show ((e a).canLay0 && PyData.canLayAll0 (l.map e)) = true
    rw [h, layAll_map h l]; rfl
theorem depAll_map {α : Type} {e : α → PyData} {n : Nat} (h : ∀ a, (e a).depth ≤ n) : ∀ (l : List α), PyData.depthAll (l.map e) ≤ n
  | [] => Nat.zero_le _
  | a :: l => by
    show max (e a).depth (PyData.depthAll (l.map e)) ≤ n
    exact Nat.max_le.mpr ⟨h a, depAll_map h l⟩
theorem enc_vert : Enc dV := by
  refine ⟨fun _ => rfl, fun a => ?_, fun a b => ?_⟩
  · show max 0 (max 0 0) + 1 ≤ 8; decide
  · show ((a.1 == b.1) && ((a.2 == b.2) && true)) = true ↔ _
    simp
    exact ⟨fun ⟨x, y⟩ => Prod.ext x y, fun h => by rw [h]; exact ⟨rfl, rfl⟩⟩
theorem Enc.list {α : Type} {e : α → PyData} {n : Nat} (E : Enc e) (h : ∀ a, (e a).depth ≤ n) (hn : n + 1 ≤ 8) : Enc (fun l : List α => PyData.tuple (l.map e)) := by
  refine ⟨fun l => layAll_map E.lay l, fun l => ?_, fun l m => eqvAll_map E.eq l m⟩
  show PyData.depthAll (l.map e) + 1 ≤ 8
  have := depAll_map h l
  omega
theorem enc_attrs : Enc (fun l : List Int => PyData.tuple (dI l)) := enc_int.list (n := 0) (fun _ => Nat.le_refl _) (by decide)
theorem dV_dep (a : Int × Int) : (dV a).depth ≤ 1 := by show max 0 (max 0 0) + 1 ≤ 1; decide
theorem enc_verts : Enc (fun l : List (Int × Int) => PyData.tuple (l.map dV)) := enc_vert.list (n := 1) dV_dep (by decide)
theorem dF_lay (f : Feature) : (dF f).canLay0 = true := by
  show (PyData.canLayAll0 (dI f.attributes) && (PyData.canLayAll0 (f.vertices.map dV) && true)) = true
  rw [show PyData.canLayAll0 (dI f.attributes) = true from layAll_map (fun _ => rfl) _, layAll_map (fun _ => rfl)]; rfl
theorem dF_dep (f : Feature) : (dF f).depth ≤ 4 := by
  show max (PyData.depthAll (dI f.attributes) + 1) (max (PyData.depthAll (f.vertices.map dV) + 1) 0) + 1 ≤ 4
  have h1 : PyData.depthAll (dI f.attributes) ≤ 0 := depAll_map (e := PyData.int) (fun _ => Nat.le_refl 0) _
  have h2 := depAll_map dV_dep f.vertices
  omega
theorem dF_sh (f : Feature) : SeqAt.shaped (dF f) = true := by
  unfold SeqAt.shaped
  rw [dF_lay, decide_eq_true (Nat.le_trans (dF_dep f) (by decide))]; rfl
theorem dO_sh : ∀ o : Option Feature, SeqAt.shaped (dO o) = true
  | none => by decide
  | some f => dF_sh f
theorem dF_eqv (f g : Feature) : PyData.eqv (dF f) (dF g) = true ↔ f.attributes = g.attributes ∧ f.vertices = g.vertices := by
  show (PyData.eqvAll (dI f.attributes) (dI g.attributes) && (PyData.eqvAll (f.vertices.map dV) (g.vertices.map dV) && true)) = true ↔ _
  rw [Bool.and_true, Bool.and_eq_true, show PyData.eqvAll (dI f.attributes) (dI g.attributes) = true ↔ _ from eqvAll_map enc_int.eq _ _, eqvAll_map enc_vert.eq]
/-- same ids: Python's == is equality -/
theorem dO_eqv {n : Nat} : ∀ {o p : Option Feature}, (∀ f, o = some f → f.id = n) → (∀ f, p = some f → f.id = n) → PyData.eqv (dO o) (dO p) = decide (o = p)
  | none, none, _, _ => by simp [dO, PyData.eqv]
  | none, some g, _, _ => by simp [dO, dF, PyData.eqv]
  | some f, none, _, _ => by simp [dO, dF, PyData.eqv]
  | some f, some g, h1, h2 => by
    have e1 := h1 f rfl
    have e2 := h2 g rfl
    show PyData.eqv (dF f) (dF g) = _
    by_cases h : f = g
    · rw [h, decide_eq_true rfl]
      exact (dF_eqv g g).mpr ⟨rfl, rfl⟩
    · rw [decide_eq_false (fun z => h (Option.some.inj z))]
      cases q : PyData.eqv (dF f) (dF g) with
      | false => rfl
      | true =>
        obtain ⟨x, y⟩ := (dF_eqv f g).mp q
        refine absurd ?_ h
        cases f; cases g
        simp at *
        exact ⟨by omega, x, y⟩
/-! ### what stands -/
def isTup : HO → Bool
  | .tup _ => true
  | .frz _ (.tup _) => true
  | _ => false
/-- the tuples stand -/
def Tup (H H' : Hp) : Prop := ∀ b o, H b = some o → isTup o = true → H' b = some o
theorem Tup.refl (H : Hp) : Tup H H := fun _ _ h _ => h
theorem Tup.trans {H H1 H2 : Hp} (a : Tup H H1) (b : Tup H1 H2) : Tup H H2 := fun c o h t => b c o (a c o h t) t
theorem Tup.of {H H' : Hp} (s : Same H H') : Tup H H' := fun b o h _ => s b o h
theorem Tup.upd {H : Hp} {a : Addr} {o u : HO} (h : H a = some o) (t : isTup o = false) : Tup H (upd H a u) := fun b x hb ht => by
  rw [upd_ne]
  · exact hb
  · intro e
    rw [e, h] at hb
    cases hb
    rw [t] at ht
    cases ht
theorem same_upd {H : Hp} {a : Addr} {o : HO} (h : H a = none) : Same H (upd H a o) := fun b u hb => by
  rw [upd_ne (ne_of_none hb h)]
  exact hb
theorem Rd.same {H H' : Hp} {a : Addr} {u : HO} (s : Same H H') (h : Rd H a u) : Rd H' a u := by
  rcases h with h | ⟨o, h⟩
  · exact .inl (s _ _ h)
  · exact .inr ⟨o, s _ _ h⟩
section
variable {K : PySem.W.Frag} {H H' : Hp}
theorem _root_.L2.SqT.tup {a : Addr} {xs : List V} (t : Tup H H') (h : SqT K H a xs) : SqT K H' a xs := by
  rcases h with (h | ⟨o, h⟩) | h
  · exact .inl (.inl (t _ _ h rfl))
  · exact .inl (.inr ⟨o, t _ _ h rfl⟩)
  · exact .inr h
mutual
/-- plain data without lists -/
def noL : PyData → Bool
  | .list _ => false
  | .tuple xs => noLs xs
  | _ => true
def noLs : List PyData → Bool
  | [] => true
  | x :: r => noL x && noLs r
end
mutual
theorem DpT.tup (t : Tup H H') : ∀ (d : PyData) (v : V), noL d = true → Dp K H v d → Dp K H' v d
  | .none, _, _, h => by cases h; exact .non
  | .bool _, _, _, h => by cases h; exact .bl _
  | .int _, _, _, h => by cases h; exact .int _
  | .str _, _, _, h => by cases h; exact .str _
  | .tuple ds, _, n, h => by
    cases h with
    | tup s a => exact .tup (L2.SqT.tup t s) (DpAllT.tup t ds _ n a)
  | .list _, _, n, _ => by cases n
  | .dict _, _, _, h => by cases h
theorem DpAllT.tup (t : Tup H H') : ∀ (ds : List PyData) (vs : List V), noLs ds = true → DpAll K H vs ds → DpAll K H' vs ds
  | [], _, _, h => by cases h; exact .nil
  | d :: ds, _, n, h => by
    obtain ⟨n1, n2⟩ : noL d = true ∧ noLs ds = true := Bool.and_eq_true_iff.mp n
    cases h with
    | cons h1 h2 => exact .cons (DpT.tup t d _ n1 h1) (DpAllT.tup t ds _ n2 h2)
end
theorem noLs_map {α : Type} {e : α → PyData} (h : ∀ a, noL (e a) = true) : ∀ l : List α, noLs (l.map e) = true
  | [] => rfl
  | a :: l => by show (noL (e a) && noLs (l.map e)) = true; rw [h, noLs_map h l]; rfl
theorem dF_noL (f : Feature) : noL (dF f) = true := by
  show (noLs (dI f.attributes) && (noLs (f.vertices.map dV) && true)) = true
  rw [show noLs (dI f.attributes) = true from noLs_map (fun _ => rfl) _, noLs_map (fun _ => rfl)]; rfl
/-- a feature stands at the value x -/
def Fea (K : PySem.W.Frag) (H : Hp) (x : V) (f : Feature) : Prop := Dp K H x (dF f)
theorem Fea.tup {x : V} {f : Feature} (t : Tup H H') (h : Fea K H x f) : Fea K H' x f := DpT.tup t _ _ (dF_noL f) h
theorem DpAll.len : ∀ {vs : List V} {ds : List PyData}, DpAll K H vs ds → vs.length = ds.length
  | _, _, .nil => rfl
  | _, _, .cons _ r => by rw [List.length_cons, List.length_cons, DpAll.len r]
theorem DpAll.at : ∀ {vs : List V} {ds : List PyData} {i : Nat} {d : PyData}, DpAll K H vs ds → ds[i]? = some d → ∃ v, vs[i]? = some v ∧ Dp K H v d
  | _, _, _, _, .nil, e => by simp at e
  | _, _, 0, _, .cons h _, e => by simp at e; subst e; exact ⟨_, rfl, h⟩
  | _, _, i + 1, d, .cons _ r, e => by
    obtain ⟨v, h1, h2⟩ := DpAll.at (i := i) (d := d) r (by simpa using e)
    exact ⟨v, by simpa using h1, h2⟩
theorem DpAll.at' : ∀ {vs : List V} {ds : List PyData} {i : Nat} {v : V}, DpAll K H vs ds → vs[i]? = some v → ∃ d, ds[i]? = some d ∧ Dp K H v d
  | _, _, _, _, .nil, e => by simp at e
  | _, _, 0, _, .cons h _, e => by simp at e; subst e; exact ⟨_, rfl, h⟩
  | _, _, i + 1, d, .cons _ r, e => by
    obtain ⟨v, h1, h2⟩ := DpAll.at' (i := i) (v := d) r (by simpa using e)
    exact ⟨v, by simpa using h1, h2⟩
theorem dp_ints : ∀ {vs : List V} {l : List Int}, DpAll K H vs (dI l) → vs = l.map V.int
  | [], [], _ => rfl
  | _, [], h => by cases h; rfl
  | _, i :: l, h => by
    cases h with
    | cons h1 h2 => cases h1; rw [dp_ints h2]; rfl
theorem dp_ints' : ∀ (l : List Int), DpAll K H (l.map V.int) (dI l)
  | [] => .nil
  | i :: l => .cons (.int i) (dp_ints' l)
theorem dp_tup {x : V} {ds : List PyData} (h : Dp K H x (.tuple ds)) : ∃ a xs, x = .ref a ∧ SqT K H a xs ∧ DpAll K H xs ds := by
  cases h with
  | tup s a => exact ⟨_, _, rfl, s, a⟩
/-- a vertex's tuple -/
theorem dp_vert {x : V} {p : Int × Int} (h : Dp K H x (dV p)) : ∃ a, x = .ref a ∧ SqT K H a [.int p.1, .int p.2] := by
  obtain ⟨a, xs, e, s, d⟩ := dp_tup h
  have := dp_ints (l := [p.1, p.2]) d
  subst this
  exact ⟨a, e, s⟩
theorem dp_vert' {a : Addr} {p : Int × Int} (h : SqT K H a [.int p.1, .int p.2]) : Dp K H (.ref a) (dV p) := .tup h (dp_ints' [p.1, p.2])
/-- a feature's parts -/
theorem Fea.parts {x : V} {f : Feature} (h : Fea K H x f) : ∃ a p q vs, x = .ref a ∧ SqT K H a [.ref p, .ref q] ∧ SqT K H p (f.attributes.map V.int) ∧ SqT K H q vs ∧ DpAll K H vs (f.vertices.map dV) := by
  obtain ⟨a, xs, e, s, d⟩ := dp_tup h
  cases d with
  | cons h1 h2 =>
    cases h2 with
    | cons h2 h3 =>
      cases h3
      obtain ⟨p, ps, rfl, sp, dp⟩ := dp_tup h1
      obtain ⟨q, qs, rfl, sq, dq⟩ := dp_tup h2
      have := dp_ints dp
      subst this
      exact ⟨a, p, q, qs, e, s, sp, sq, dq⟩
theorem Fea.mk {a p q : Addr} {vs : List V} {f : Feature} (h : SqT K H a [.ref p, .ref q]) (hp : SqT K H p (f.attributes.map V.int)) (hq : SqT K H q vs) (hv : DpAll K H vs (f.vertices.map dV)) : Fea K H (.ref a) f :=
  Dp.tup h (DpAll.cons (Dp.tup hp (dp_ints' _)) (DpAll.cons (Dp.tup hq hv) DpAll.nil))
end
/-! ### versions -/
def Opt {α β : Type} (R : α → β → Prop) : Option α → Option β → Prop
  | none, none => True
  | some a, some b => R a b
  | _, _ => False
abbrev kI (n : Nat) : Key := Sum.inl (n : Int)
structure VerD (K : PySem.W.Frag) (H : Hp) (kvs : List (Key × V)) (v : Version) : Prop where
  nd : (kvs.map (·.1)).Nodup
  only : ∀ k ∈ kvs.map (·.1), ∃ n : Nat, k = kI n
  get : ∀ n : Nat, Opt (Fea K H) (valV kvs (kI n)) (find v n)
def VerR (K : PySem.W.Frag) (H : Hp) (d : Addr) (v : Version) : Prop := ∃ kvs, Rd H d (.dK kvs) ∧ VerD K H kvs v
def VerAt (K : PySem.W.Frag) (H : Hp) (d : Addr) (v : Version) : Prop := ∃ kvs, H d = some (.dK kvs) ∧ VerD K H kvs v
section
variable {K : PySem.W.Frag} {H H' : Hp} {kvs : List (Key × V)} {v : Version} {d : Addr}
theorem Opt.imp {α β : Type} {R S : α → β → Prop} (h : ∀ a b, R a b → S a b) : ∀ {a : Option α} {b : Option β}, Opt R a b → Opt S a b
  | none, none, _ => trivial
  | some _, some _, x => h _ _ x
  | none, some _, x => x.elim
  | some _, none, x => x.elim
theorem VerD.tup (t : Tup H H') (h : VerD K H kvs v) : VerD K H' kvs v := ⟨h.nd, h.only, fun n => (h.get n).imp fun _ _ x => x.tup t⟩
theorem VerR.same (s : Same H H') (h : VerR K H d v) : VerR K H' d v := by
  obtain ⟨kvs, r, x⟩ := h
  exact ⟨kvs, Rd.same s r, x.tup (Tup.of s)⟩
theorem VerAt.same (s : Same H H') (h : VerAt K H d v) : VerAt K H' d v := by
  obtain ⟨kvs, r, x⟩ := h
  exact ⟨kvs, s _ _ r, x.tup (Tup.of s)⟩
theorem VerAt.rd (h : VerAt K H d v) : VerR K H d v := by
  obtain ⟨kvs, r, x⟩ := h
  exact ⟨kvs, .inl r, x⟩
theorem valV_key {k : Key} : k ∈ kvs.map (·.1) ↔ (valV kvs k).isSome = true := by
  constructor
  · intro h
    cases e : valV kvs k with
    | some v => rfl
    | none => exact absurd h (valV_not e)
  · intro h
    cases e : valV kvs k with
    | some v => exact valV_in e
    | none => rw [e] at h; cases h
theorem VerD.some_iff (h : VerD K H kvs v) (n : Nat) : (valV kvs (kI n)).isSome = (find v n).isSome := by
  have := h.get n
  cases e : valV kvs (kI n) <;> cases q : find v n <;> rw [e, q] at this <;> first | rfl | exact this.elim
theorem VerD.none (h : VerD K H kvs v) {n : Nat} (e : find v n = none) : valV kvs (kI n) = none := by
  have := h.some_iff n
  rw [e] at this
  cases q : valV kvs (kI n) with
  | none => rfl
  | some x => rw [q] at this; cases this
theorem VerD.some (h : VerD K H kvs v) {n : Nat} {f : Feature} (e : find v n = some f) : ∃ x, valV kvs (kI n) = some x ∧ Fea K H x f := by
  have := h.get n
  rw [e] at this
  cases q : valV kvs (kI n) with
  | none => rw [q] at this; exact this.elim
  | some x => rw [q] at this; exact ⟨x, rfl, this⟩
theorem kI_inj {n m : Nat} : kI n = kI m ↔ n = m := by
  constructor
  · intro h
    have := Sum.inl.inj h
    omega
  · intro h; rw [h]
theorem VerD.keys (h : VerD K H kvs v) (k : Key) : k ∈ kvs.map (·.1) ↔ ∃ n : Nat, k = kI n ∧ (find v n).isSome = true := by
  constructor
  · intro m
    obtain ⟨n, e⟩ := h.only k m
    subst e
    exact ⟨n, rfl, by rw [← h.some_iff]; exact valV_key.mp m⟩
  · rintro ⟨n, rfl, e⟩
    exact valV_key.mpr (by rw [h.some_iff]; exact e)
theorem VerD.len (h : VerD K H kvs v) (s : Srt v) : kvs.length = v.length := by
  have nd2 : (v.map fun f => kI f.id).Nodup := by
    rw [List.nodup_iff_pairwise_ne, List.pairwise_map]
    exact List.Pairwise.imp (fun x y => by have := kI_inj.mp y; omega) s
  have p := (List.perm_ext_iff_of_nodup h.nd nd2).mpr fun k => by
    rw [h.keys k, List.mem_map]
    constructor
    · rintro ⟨n, rfl, e⟩
      obtain ⟨f, hf, e⟩ := find_isSome.mp e
      exact ⟨f, hf, by rw [e]⟩
    · rintro ⟨f, hf, rfl⟩
      exact ⟨f.id, rfl, find_isSome.mpr ⟨f, hf, rfl⟩⟩
  have := p.length_eq
  rw [List.length_map, List.length_map] at this
  exact this
theorem valV_drop (k j : Key) : ∀ kvs : List (Key × V), valV (dropK kvs k) j = if j = k then Option.none else valV kvs j
  | [] => by simp [dropK, valV]
  | p :: r => by
    by_cases e : p.1 = k
    · rw [dropK_pos e, valV_drop k j r]
      by_cases q : j = k
      · rw [if_pos q, if_pos q]
      · rw [if_neg q, if_neg q, valV_neg (by rw [e]; exact fun z => q z.symm)]
    · rw [dropK_neg e]
      by_cases q : p.1 = j
      · rw [valV_pos q, valV_pos q, if_neg (by rw [← q]; exact e)]
      · rw [valV_neg q, valV_neg q, valV_drop k j r]
theorem keys_put {k : Key} {x : V} {kvs : List (Key × V)} (hn : (kvs.map (·.1)).Nodup) : ((putK kvs k x).map (·.1)).Nodup ∧ ∀ j, j ∈ (putK kvs k x).map (·.1) → j = k ∨ j ∈ kvs.map (·.1) := by
  refine ⟨?_, fun j hj => ?_⟩
  · cases e : valV kvs k with
    | none => exact nd_putK x hn e
    | some y =>
      have : (putK kvs k x).map (·.1) = kvs.map (·.1) := by
        unfold putK
        rw [if_pos (by rw [valV_any, e]; rfl), List.map_map]
        refine List.map_congr_left fun p _ => ?_
        simp only [Function.comp]
        split
        · rfl
        · rfl
      rw [this]; exact hn
  · rw [valV_key, valV_put] at hj
    by_cases q : j = k
    · exact .inl q
    · rw [if_neg q] at hj
      exact .inr (valV_key.mpr hj)
theorem VerD.put {x : V} {f : Feature} (h : VerD K H kvs v) (s : Srt v) (hf : Fea K H x f) : VerD K H (putK kvs (kI f.id) x) (insertFeature f v) := by
  have kp := keys_put (k := kI f.id) (x := x) h.nd
  refine ⟨kp.1, fun k hk => ?_, fun n => ?_⟩
  · rcases kp.2 k hk with e | m
    · exact ⟨f.id, e⟩
    · exact h.only k m
  · rw [valV_put, find_ins s]
    by_cases e : n = f.id
    · rw [if_pos (kI_inj.mpr e), if_pos e]; exact hf
    · rw [if_neg (fun z => e (kI_inj.mp z)), if_neg e]; exact h.get n
theorem VerD.drop (h : VerD K H kvs v) (n : Nat) : VerD K H (dropK kvs (kI n)) (removeFeature v n) := by
  refine ⟨nd_dropK h.nd, fun k hk => ?_, fun m => ?_⟩
  · rw [valV_key, valV_drop] at hk
    split at hk
    · cases hk
    · exact h.only k (valV_key.mpr hk)
  · rw [valV_drop, find_rem]
    by_cases e : m = n
    · rw [if_pos (kI_inj.mpr e), if_pos e]; trivial
    · rw [if_neg (fun z => e (kI_inj.mp z)), if_neg e]; exact h.get m
theorem VerD.nil : VerD K H [] [] := ⟨List.nodup_nil, fun k h => by simp at h, fun n => trivial⟩
end
end Pv
end
section
set_option Elab.async false
set_option linter.all false
set_option maxRecDepth 100000
set_option maxHeartbeats 0
namespace Pv
open PySem PySem.Spec PyProof.Rows L2
def top (i : Nat) : Stmt := PySem.Challenge.pw_plotversions_s01_answers.main.body.getD i (.Pass ⟨0, 0, 0, 0⟩)
abbrev R : PySem.W.OpenSpec := PySem.Challenge.rw_plotversions_s01_answers
abbrev s_read_call : Stmt := top 4
abbrev s_row_count : Stmt := top 5
abbrev s_ancestors : Stmt := top 7
abbrev s_greatest_common_ancestor : Stmt := top 8
abbrev s_reachable : Stmt := top 9
abbrev s_origin : Stmt := top 10
abbrev s_first_parent_with : Stmt := top 11
abbrev s_changed_ids : Stmt := top 36
abbrev s_changes : Stmt := top 37
abbrev s_change_of : Stmt := top 38
abbrev s_changed_parts : Stmt := top 39
abbrev s_commit : Stmt := top 41
abbrev s_discard : Stmt := top 42
abbrev s_reset_branch : Stmt := top 43
abbrev s_collect_garbage : Stmt := top 44
abbrev s_taken_pairs : Stmt := top 49
abbrev s_possible_pairs : Stmt := top 50
abbrev s_correspondence : Stmt := top 51
abbrev s_is_moved : Stmt := top 52
abbrev s_squared_distance : Stmt := top 53
abbrev s_greatest_distance : Stmt := top 54
abbrev s_counted : Stmt := top 56
abbrev s_diff : Stmt := top 58
abbrev s_working_diff : Stmt := top 59
abbrev s_match_features : Stmt := top 60
abbrev s_ids_without : Stmt := top 61
abbrev s_is_attribute : Stmt := top 63
abbrev s_is_coordinate : Stmt := top 64
abbrev s_are_attributes : Stmt := top 65
abbrev s_are_vertices : Stmt := top 66
abbrev s_make_feature : Stmt := top 67
abbrev s_with_attribute : Stmt := top 68
abbrev s_with_moved_vertex : Stmt := top 69
abbrev s_with_inserted_vertex : Stmt := top 70
abbrev s_without_vertex : Stmt := top 71
abbrev s_written_feature : Stmt := top 72
abbrev s_put_feature : Stmt := top 74
abbrev s_remove_feature : Stmt := top 75
abbrev s_set_attribute : Stmt := top 76
abbrev s_move_vertex : Stmt := top 77
abbrev s_insert_vertex : Stmt := top 78
abbrev s_remove_vertex : Stmt := top 79
abbrev s_merge_versions : Stmt := top 88
abbrev s_merge_feature : Stmt := top 89
abbrev s_merge_vertices : Stmt := top 90
abbrev s_merge_one_by_one : Stmt := top 91
abbrev s_merge_value : Stmt := top 92
abbrev s_merge : Stmt := top 97
abbrev s_merge_with : Stmt := top 98
abbrev s_merge_branch : Stmt := top 99
abbrev s_merge_commit : Stmt := top 100
abbrev s_revert : Stmt := top 101
abbrev s_cherry_pick : Stmt := top 102
abbrev s_apply_commit : Stmt := top 103
abbrev s_version_in : Stmt := top 104
abbrev s_parent_version : Stmt := top 105
abbrev s_has_no_room : Stmt := top 106
abbrev s_create_branch : Stmt := top 108
abbrev s_switch_branch : Stmt := top 109
abbrev s_delete_branch : Stmt := top 110
abbrev s_set_tag : Stmt := top 111
abbrev s_delete_tag : Stmt := top 112
abbrev s_get_feature : Stmt := top 114
abbrev s_list_features : Stmt := top 115
abbrev s_get_state : Stmt := top 116
abbrev s_commit_hash : Stmt := top 122
abbrev s_version_hash : Stmt := top 123
abbrev s_hash_of_numbers : Stmt := top 124
abbrev s_bytes_of : Stmt := top 125
abbrev s_log : Stmt := top 130
abbrev s_common_ancestor : Stmt := top 131
abbrev s_origin_of_attribute : Stmt := top 132
abbrev s_origin_of_vertices : Stmt := top 133
abbrev s_has_attribute : Stmt := top 134
abbrev s_has_vertices : Stmt := top 135
abbrev s_hash_of_commit : Stmt := top 136
abbrev s_answers : Stmt := top 140
abbrev s_answer_call : Stmt := top 141
abbrev s_create : Stmt := top 142
abbrev s_operations_by_number : Stmt := top 143
abbrev s_Commit_init : Stmt := inClass (top 127) 0
abbrev s_Store_init : Stmt := inClass (top 128) 0
abbrev s_Store_head : Stmt := inClass (top 128) 1
abbrev s_Store_head_version : Stmt := inClass (top 128) 2
abbrev s_Store_is_changed : Stmt := inClass (top 128) 3
abbrev s_Store_is_full : Stmt := inClass (top 128) 4
abbrev s_Store_named_commits : Stmt := inClass (top 128) 5
abbrev s_Store_version_of : Stmt := inClass (top 128) 6
abbrev s_Store_make_commit : Stmt := inClass (top 128) 7
abbrev s_Store_move_head : Stmt := inClass (top 128) 8
abbrev s_Store_take_head_version : Stmt := inClass (top 128) 9
abbrev s_Session_init : Stmt := inClass (top 139) 0
def d_read_call : He.DefD := ⟨("read_call", none), "read_call", "read_call", defArgs s_read_call, defBody s_read_call, defScope s_read_call, [], []⟩
def d_row_count : He.DefD := ⟨("row_count", none), "row_count", "row_count", defArgs s_row_count, defBody s_row_count, defScope s_row_count, [], []⟩
def d_ancestors : He.DefD := ⟨("ancestors", none), "ancestors", "ancestors", defArgs s_ancestors, defBody s_ancestors, defScope s_ancestors, [], []⟩
def d_greatest_common_ancestor : He.DefD := ⟨("greatest_common_ancestor", none), "greatest_common_ancestor", "greatest_common_ancestor", defArgs s_greatest_common_ancestor, defBody s_greatest_common_ancestor, defScope s_greatest_common_ancestor, [], []⟩
def d_reachable : He.DefD := ⟨("reachable", none), "reachable", "reachable", defArgs s_reachable, defBody s_reachable, defScope s_reachable, [], []⟩
def d_origin : He.DefD := ⟨("origin", none), "origin", "origin", defArgs s_origin, defBody s_origin, defScope s_origin, [], []⟩
def d_first_parent_with : He.DefD := ⟨("first_parent_with", none), "first_parent_with", "first_parent_with", defArgs s_first_parent_with, defBody s_first_parent_with, defScope s_first_parent_with, [], []⟩
def d_changed_ids : He.DefD := ⟨("changed_ids", none), "changed_ids", "changed_ids", defArgs s_changed_ids, defBody s_changed_ids, defScope s_changed_ids, [], []⟩
def d_changes : He.DefD := ⟨("changes", none), "changes", "changes", defArgs s_changes, defBody s_changes, defScope s_changes, [], []⟩
def d_change_of : He.DefD := ⟨("change_of", none), "change_of", "change_of", defArgs s_change_of, defBody s_change_of, defScope s_change_of, [], []⟩
def d_changed_parts : He.DefD := ⟨("changed_parts", none), "changed_parts", "changed_parts", defArgs s_changed_parts, defBody s_changed_parts, defScope s_changed_parts, [], []⟩
def d_commit : He.DefD := ⟨("commit", none), "commit", "commit", defArgs s_commit, defBody s_commit, defScope s_commit, [], []⟩
def d_discard : He.DefD := ⟨("discard", none), "discard", "discard", defArgs s_discard, defBody s_discard, defScope s_discard, [], []⟩
def d_reset_branch : He.DefD := ⟨("reset_branch", none), "reset_branch", "reset_branch", defArgs s_reset_branch, defBody s_reset_branch, defScope s_reset_branch, [], []⟩
def d_collect_garbage : He.DefD := ⟨("collect_garbage", none), "collect_garbage", "collect_garbage", defArgs s_collect_garbage, defBody s_collect_garbage, defScope s_collect_garbage, [], []⟩
def d_taken_pairs : He.DefD := ⟨("taken_pairs", none), "taken_pairs", "taken_pairs", defArgs s_taken_pairs, defBody s_taken_pairs, defScope s_taken_pairs, [], []⟩
def d_possible_pairs : He.DefD := ⟨("possible_pairs", none), "possible_pairs", "possible_pairs", defArgs s_possible_pairs, defBody s_possible_pairs, defScope s_possible_pairs, [], []⟩
def d_correspondence : He.DefD := ⟨("correspondence", none), "correspondence", "correspondence", defArgs s_correspondence, defBody s_correspondence, defScope s_correspondence, [], []⟩
def d_is_moved : He.DefD := ⟨("is_moved", none), "is_moved", "is_moved", defArgs s_is_moved, defBody s_is_moved, defScope s_is_moved, [], []⟩
def d_squared_distance : He.DefD := ⟨("squared_distance", none), "squared_distance", "squared_distance", defArgs s_squared_distance, defBody s_squared_distance, defScope s_squared_distance, [], []⟩
def d_greatest_distance : He.DefD := ⟨("greatest_distance", none), "greatest_distance", "greatest_distance", defArgs s_greatest_distance, defBody s_greatest_distance, defScope s_greatest_distance, [], []⟩
def d_counted : He.DefD := ⟨("counted", none), "counted", "counted", defArgs s_counted, defBody s_counted, defScope s_counted, [], []⟩
def d_diff : He.DefD := ⟨("diff", none), "diff", "diff", defArgs s_diff, defBody s_diff, defScope s_diff, [], []⟩
def d_working_diff : He.DefD := ⟨("working_diff", none), "working_diff", "working_diff", defArgs s_working_diff, defBody s_working_diff, defScope s_working_diff, [], []⟩
def d_match_features : He.DefD := ⟨("match_features", none), "match_features", "match_features", defArgs s_match_features, defBody s_match_features, defScope s_match_features, [], []⟩
def d_ids_without : He.DefD := ⟨("ids_without", none), "ids_without", "ids_without", defArgs s_ids_without, defBody s_ids_without, defScope s_ids_without, [], []⟩
def d_is_attribute : He.DefD := ⟨("is_attribute", none), "is_attribute", "is_attribute", defArgs s_is_attribute, defBody s_is_attribute, defScope s_is_attribute, [], []⟩
def d_is_coordinate : He.DefD := ⟨("is_coordinate", none), "is_coordinate", "is_coordinate", defArgs s_is_coordinate, defBody s_is_coordinate, defScope s_is_coordinate, [], []⟩
def d_are_attributes : He.DefD := ⟨("are_attributes", none), "are_attributes", "are_attributes", defArgs s_are_attributes, defBody s_are_attributes, defScope s_are_attributes, [], []⟩
def d_are_vertices : He.DefD := ⟨("are_vertices", none), "are_vertices", "are_vertices", defArgs s_are_vertices, defBody s_are_vertices, defScope s_are_vertices, [], []⟩
def d_make_feature : He.DefD := ⟨("make_feature", none), "make_feature", "make_feature", defArgs s_make_feature, defBody s_make_feature, defScope s_make_feature, [], []⟩
def d_with_attribute : He.DefD := ⟨("with_attribute", none), "with_attribute", "with_attribute", defArgs s_with_attribute, defBody s_with_attribute, defScope s_with_attribute, [], []⟩
def d_with_moved_vertex : He.DefD := ⟨("with_moved_vertex", none), "with_moved_vertex", "with_moved_vertex", defArgs s_with_moved_vertex, defBody s_with_moved_vertex, defScope s_with_moved_vertex, [], []⟩
def d_with_inserted_vertex : He.DefD := ⟨("with_inserted_vertex", none), "with_inserted_vertex", "with_inserted_vertex", defArgs s_with_inserted_vertex, defBody s_with_inserted_vertex, defScope s_with_inserted_vertex, [], []⟩
def d_without_vertex : He.DefD := ⟨("without_vertex", none), "without_vertex", "without_vertex", defArgs s_without_vertex, defBody s_without_vertex, defScope s_without_vertex, [], []⟩
def d_written_feature : He.DefD := ⟨("written_feature", none), "written_feature", "written_feature", defArgs s_written_feature, defBody s_written_feature, defScope s_written_feature, [], []⟩
def d_put_feature : He.DefD := ⟨("put_feature", none), "put_feature", "put_feature", defArgs s_put_feature, defBody s_put_feature, defScope s_put_feature, [], []⟩
def d_remove_feature : He.DefD := ⟨("remove_feature", none), "remove_feature", "remove_feature", defArgs s_remove_feature, defBody s_remove_feature, defScope s_remove_feature, [], []⟩
def d_set_attribute : He.DefD := ⟨("set_attribute", none), "set_attribute", "set_attribute", defArgs s_set_attribute, defBody s_set_attribute, defScope s_set_attribute, [], []⟩
def d_move_vertex : He.DefD := ⟨("move_vertex", none), "move_vertex", "move_vertex", defArgs s_move_vertex, defBody s_move_vertex, defScope s_move_vertex, [], []⟩
def d_insert_vertex : He.DefD := ⟨("insert_vertex", none), "insert_vertex", "insert_vertex", defArgs s_insert_vertex, defBody s_insert_vertex, defScope s_insert_vertex, [], []⟩
def d_remove_vertex : He.DefD := ⟨("remove_vertex", none), "remove_vertex", "remove_vertex", defArgs s_remove_vertex, defBody s_remove_vertex, defScope s_remove_vertex, [], []⟩
def d_merge_versions : He.DefD := ⟨("merge_versions", none), "merge_versions", "merge_versions", defArgs s_merge_versions, defBody s_merge_versions, defScope s_merge_versions, [], []⟩
def d_merge_feature : He.DefD := ⟨("merge_feature", none), "merge_feature", "merge_feature", defArgs s_merge_feature, defBody s_merge_feature, defScope s_merge_feature, [], []⟩
def d_merge_vertices : He.DefD := ⟨("merge_vertices", none), "merge_vertices", "merge_vertices", defArgs s_merge_vertices, defBody s_merge_vertices, defScope s_merge_vertices, [], []⟩
def d_merge_one_by_one : He.DefD := ⟨("merge_one_by_one", none), "merge_one_by_one", "merge_one_by_one", defArgs s_merge_one_by_one, defBody s_merge_one_by_one, defScope s_merge_one_by_one, [], []⟩
def d_merge_value : He.DefD := ⟨("merge_value", none), "merge_value", "merge_value", defArgs s_merge_value, defBody s_merge_value, defScope s_merge_value, [], []⟩
def d_merge : He.DefD := ⟨("merge", none), "merge", "merge", defArgs s_merge, defBody s_merge, defScope s_merge, [], []⟩
def d_merge_with : He.DefD := ⟨("merge_with", none), "merge_with", "merge_with", defArgs s_merge_with, defBody s_merge_with, defScope s_merge_with, [], []⟩
def d_merge_branch : He.DefD := ⟨("merge_branch", none), "merge_branch", "merge_branch", defArgs s_merge_branch, defBody s_merge_branch, defScope s_merge_branch, [], []⟩
def d_merge_commit : He.DefD := ⟨("merge_commit", none), "merge_commit", "merge_commit", defArgs s_merge_commit, defBody s_merge_commit, defScope s_merge_commit, [], []⟩
def d_revert : He.DefD := ⟨("revert", none), "revert", "revert", defArgs s_revert, defBody s_revert, defScope s_revert, [], []⟩
def d_cherry_pick : He.DefD := ⟨("cherry_pick", none), "cherry_pick", "cherry_pick", defArgs s_cherry_pick, defBody s_cherry_pick, defScope s_cherry_pick, [], []⟩
def d_apply_commit : He.DefD := ⟨("apply_commit", none), "apply_commit", "apply_commit", defArgs s_apply_commit, defBody s_apply_commit, defScope s_apply_commit, [], []⟩
def d_version_in : He.DefD := ⟨("version_in", none), "version_in", "version_in", defArgs s_version_in, defBody s_version_in, defScope s_version_in, [], []⟩
def d_parent_version : He.DefD := ⟨("parent_version", none), "parent_version", "parent_version", defArgs s_parent_version, defBody s_parent_version, defScope s_parent_version, [], []⟩
def d_has_no_room : He.DefD := ⟨("has_no_room", none), "has_no_room", "has_no_room", defArgs s_has_no_room, defBody s_has_no_room, defScope s_has_no_room, [], []⟩
def d_create_branch : He.DefD := ⟨("create_branch", none), "create_branch", "create_branch", defArgs s_create_branch, defBody s_create_branch, defScope s_create_branch, [], []⟩
def d_switch_branch : He.DefD := ⟨("switch_branch", none), "switch_branch", "switch_branch", defArgs s_switch_branch, defBody s_switch_branch, defScope s_switch_branch, [], []⟩
def d_delete_branch : He.DefD := ⟨("delete_branch", none), "delete_branch", "delete_branch", defArgs s_delete_branch, defBody s_delete_branch, defScope s_delete_branch, [], []⟩
def d_set_tag : He.DefD := ⟨("set_tag", none), "set_tag", "set_tag", defArgs s_set_tag, defBody s_set_tag, defScope s_set_tag, [], []⟩
def d_delete_tag : He.DefD := ⟨("delete_tag", none), "delete_tag", "delete_tag", defArgs s_delete_tag, defBody s_delete_tag, defScope s_delete_tag, [], []⟩
def d_get_feature : He.DefD := ⟨("get_feature", none), "get_feature", "get_feature", defArgs s_get_feature, defBody s_get_feature, defScope s_get_feature, [], []⟩
def d_list_features : He.DefD := ⟨("list_features", none), "list_features", "list_features", defArgs s_list_features, defBody s_list_features, defScope s_list_features, [], []⟩
def d_get_state : He.DefD := ⟨("get_state", none), "get_state", "get_state", defArgs s_get_state, defBody s_get_state, defScope s_get_state, [], []⟩
def d_commit_hash : He.DefD := ⟨("commit_hash", none), "commit_hash", "commit_hash", defArgs s_commit_hash, defBody s_commit_hash, defScope s_commit_hash, [], []⟩
def d_version_hash : He.DefD := ⟨("version_hash", none), "version_hash", "version_hash", defArgs s_version_hash, defBody s_version_hash, defScope s_version_hash, [], []⟩
def d_hash_of_numbers : He.DefD := ⟨("hash_of_numbers", none), "hash_of_numbers", "hash_of_numbers", defArgs s_hash_of_numbers, defBody s_hash_of_numbers, defScope s_hash_of_numbers, [], []⟩
def d_bytes_of : He.DefD := ⟨("bytes_of", none), "bytes_of", "bytes_of", defArgs s_bytes_of, defBody s_bytes_of, defScope s_bytes_of, [], []⟩
def d_log : He.DefD := ⟨("log", none), "log", "log", defArgs s_log, defBody s_log, defScope s_log, [], []⟩
def d_common_ancestor : He.DefD := ⟨("common_ancestor", none), "common_ancestor", "common_ancestor", defArgs s_common_ancestor, defBody s_common_ancestor, defScope s_common_ancestor, [], []⟩
def d_origin_of_attribute : He.DefD := ⟨("origin_of_attribute", none), "origin_of_attribute", "origin_of_attribute", defArgs s_origin_of_attribute, defBody s_origin_of_attribute, defScope s_origin_of_attribute, [], []⟩
def d_origin_of_vertices : He.DefD := ⟨("origin_of_vertices", none), "origin_of_vertices", "origin_of_vertices", defArgs s_origin_of_vertices, defBody s_origin_of_vertices, defScope s_origin_of_vertices, [], []⟩
def d_has_attribute : He.DefD := ⟨("has_attribute", none), "has_attribute", "has_attribute", defArgs s_has_attribute, defBody s_has_attribute, defScope s_has_attribute, [], []⟩
def d_has_vertices : He.DefD := ⟨("has_vertices", none), "has_vertices", "has_vertices", defArgs s_has_vertices, defBody s_has_vertices, defScope s_has_vertices, [], []⟩
def d_hash_of_commit : He.DefD := ⟨("hash_of_commit", none), "hash_of_commit", "hash_of_commit", defArgs s_hash_of_commit, defBody s_hash_of_commit, defScope s_hash_of_commit, [], []⟩
def d_answers : He.DefD := ⟨("answers", none), "answers", "answers", defArgs s_answers, defBody s_answers, defScope s_answers, [], []⟩
def d_answer_call : He.DefD := ⟨("answer_call", none), "answer_call", "answer_call", defArgs s_answer_call, defBody s_answer_call, defScope s_answer_call, [], []⟩
def d_create : He.DefD := ⟨("create", none), "create", "create", defArgs s_create, defBody s_create, defScope s_create, [], []⟩
def d_operations_by_number : He.DefD := ⟨("operations_by_number", none), "operations_by_number", "operations_by_number", defArgs s_operations_by_number, defBody s_operations_by_number, defScope s_operations_by_number, [], []⟩
def d_Commit_init : He.DefD := ⟨("Commit", some "__init__"), "__init__", "Commit.__init__", defArgs s_Commit_init, defBody s_Commit_init, defScope s_Commit_init, [], []⟩
def d_Store_init : He.DefD := ⟨("Store", some "__init__"), "__init__", "Store.__init__", defArgs s_Store_init, defBody s_Store_init, defScope s_Store_init, [], []⟩
def d_Store_head : He.DefD := ⟨("Store", some "head"), "head", "Store.head", defArgs s_Store_head, defBody s_Store_head, defScope s_Store_head, [], []⟩
def d_Store_head_version : He.DefD := ⟨("Store", some "head_version"), "head_version", "Store.head_version", defArgs s_Store_head_version, defBody s_Store_head_version, defScope s_Store_head_version, [], []⟩
def d_Store_is_changed : He.DefD := ⟨("Store", some "is_changed"), "is_changed", "Store.is_changed", defArgs s_Store_is_changed, defBody s_Store_is_changed, defScope s_Store_is_changed, [], []⟩
def d_Store_is_full : He.DefD := ⟨("Store", some "is_full"), "is_full", "Store.is_full", defArgs s_Store_is_full, defBody s_Store_is_full, defScope s_Store_is_full, [], []⟩
def d_Store_named_commits : He.DefD := ⟨("Store", some "named_commits"), "named_commits", "Store.named_commits", defArgs s_Store_named_commits, defBody s_Store_named_commits, defScope s_Store_named_commits, [], []⟩
def d_Store_version_of : He.DefD := ⟨("Store", some "version_of"), "version_of", "Store.version_of", defArgs s_Store_version_of, defBody s_Store_version_of, defScope s_Store_version_of, [], []⟩
def d_Store_make_commit : He.DefD := ⟨("Store", some "make_commit"), "make_commit", "Store.make_commit", defArgs s_Store_make_commit, defBody s_Store_make_commit, defScope s_Store_make_commit, [], []⟩
def d_Store_move_head : He.DefD := ⟨("Store", some "move_head"), "move_head", "Store.move_head", defArgs s_Store_move_head, defBody s_Store_move_head, defScope s_Store_move_head, [], []⟩
def d_Store_take_head_version : He.DefD := ⟨("Store", some "take_head_version"), "take_head_version", "Store.take_head_version", defArgs s_Store_take_head_version, defBody s_Store_take_head_version, defScope s_Store_take_head_version, [], []⟩
def d_Session_init : He.DefD := ⟨("Session", some "__init__"), "__init__", "Session.__init__", defArgs s_Session_init, defBody s_Session_init, defScope s_Session_init, [], []⟩
def fn : List He.DefD := [d_read_call, d_row_count, d_ancestors, d_greatest_common_ancestor, d_reachable, d_origin, d_first_parent_with, d_changed_ids, d_changes, d_change_of, d_changed_parts, d_commit, d_discard, d_reset_branch, d_collect_garbage, d_taken_pairs, d_possible_pairs, d_correspondence, d_is_moved, d_squared_distance, d_greatest_distance, d_counted, d_diff, d_working_diff, d_match_features, d_ids_without, d_is_attribute, d_is_coordinate, d_are_attributes, d_are_vertices, d_make_feature, d_with_attribute, d_with_moved_vertex, d_with_inserted_vertex, d_without_vertex, d_written_feature, d_put_feature, d_remove_feature, d_set_attribute, d_move_vertex, d_insert_vertex, d_remove_vertex, d_merge_versions, d_merge_feature, d_merge_vertices, d_merge_one_by_one, d_merge_value, d_merge, d_merge_with, d_merge_branch, d_merge_commit, d_revert, d_cherry_pick, d_apply_commit, d_version_in, d_parent_version, d_has_no_room, d_create_branch, d_switch_branch, d_delete_branch, d_set_tag, d_delete_tag, d_get_feature, d_list_features, d_get_state, d_commit_hash, d_version_hash, d_hash_of_numbers, d_bytes_of, d_log, d_common_ancestor, d_origin_of_attribute, d_origin_of_vertices, d_has_attribute, d_has_vertices, d_hash_of_commit, d_answers, d_answer_call, d_create, d_operations_by_number, d_Commit_init, d_Store_init, d_Store_head, d_Store_head_version, d_Store_is_changed, d_Store_is_full, d_Store_named_commits, d_Store_version_of, d_Store_make_commit, d_Store_move_head, d_Store_take_head_version, d_Session_init]
def fa : List He.Fa := [.glo "read_call", .glo "row_count", .glo "ancestors", .glo "greatest_common_ancestor", .glo "reachable", .glo "origin", .glo "first_parent_with", .glo "changed_ids", .glo "changes", .glo "change_of", .glo "changed_parts", .glo "commit", .glo "discard", .glo "reset_branch", .glo "collect_garbage", .glo "taken_pairs", .glo "possible_pairs", .glo "correspondence", .glo "is_moved", .glo "squared_distance", .glo "greatest_distance", .glo "counted", .glo "diff", .glo "working_diff", .glo "match_features", .glo "ids_without", .glo "is_attribute", .glo "is_coordinate", .glo "are_attributes", .glo "are_vertices", .glo "make_feature", .glo "with_attribute", .glo "with_moved_vertex", .glo "with_inserted_vertex", .glo "without_vertex", .glo "written_feature", .glo "put_feature", .glo "remove_feature", .glo "set_attribute", .glo "move_vertex", .glo "insert_vertex", .glo "remove_vertex", .glo "merge_versions", .glo "merge_feature", .glo "merge_vertices", .glo "merge_one_by_one", .glo "merge_value", .glo "merge", .glo "merge_with", .glo "merge_branch", .glo "merge_commit", .glo "revert", .glo "cherry_pick", .glo "apply_commit", .glo "version_in", .glo "parent_version", .glo "has_no_room", .glo "create_branch", .glo "switch_branch", .glo "delete_branch", .glo "set_tag", .glo "delete_tag", .glo "get_feature", .glo "list_features", .glo "get_state", .glo "commit_hash", .glo "version_hash", .glo "hash_of_numbers", .glo "bytes_of", .glo "log", .glo "common_ancestor", .glo "origin_of_attribute", .glo "origin_of_vertices", .glo "has_attribute", .glo "has_vertices", .glo "hash_of_commit", .glo "answers", .glo "answer_call", .glo "create", .glo "operations_by_number", .glo "Commit", .glo "Store", .glo "Session", .free "all", .free "dict", .free "divmod", .free "enumerate", .free "len", .free "list", .free "max", .free "min", .free "range", .free "set", .free "sorted", .free "tuple", .free "zip", .int "PUT_FEATURE" (1), .int "PUT_FEATURE_ROW_COUNT" (2), .int "GREATEST_ATTRIBUTE_COUNT" (8), .int "GREATEST_FEATURE_ID" (65535), .int "GREATEST_ATTRIBUTE" (1000000000), .int "GREATEST_COORDINATE" (1000000), .int "GREATEST_VERTEX_COUNT" (12), .int "GREATEST_FEATURE_COUNT" (16), .int "GREATEST_COMMIT_COUNT" (40), .int "GREATEST_BRANCH_COUNT" (8), .int "GREATEST_TAG_COUNT" (8), .int "WORKING_VERSION" (4294967295), .int "MISSING" (-2), .int "NO_CHANGE" (-6), .int "NO_INSTANCE" (-11), .int "IN_USE" (-16), .int "NAME_TAKEN" (-17), .int "OUT_OF_RANGE" (-22), .int "TOO_MANY" (-28), .int "NOT_THE_RIGHT_COUNT" (-33), .int "CONFLICTS" (-35), .int "ADDED" (1), .int "REMOVED" (2), .int "CHANGED" (3), .int "VERTICES_PART" (1024), .int "KEPT" (0), .int "MOVED" (1), .int "RESHAPED" (2), .int "OURS" (0), .int "THEIRS" (1), .int "REMOVED_AND_CHANGED" (1), .int "ADDED_TWICE" (2), .int "ATTRIBUTE" (3), .int "VERTEX" (4), .int "VERTICES" (5), .int "NOTHING_NEW" (0), .int "MOVED_ON" (1), .int "NEW_COMMIT" (2), .int "FIRST_HASH" (14695981039346656037), .int "FACTOR" (1099511628211), .int "BYTES_OF_A_NUMBER" (4), .int "BYTES_OF_A_HASH" (8), .int "CREATE" (0), .cls "Commit", .mkr "Commit", .noat "Commit" "hash_value", .noat "Commit" "parents", .noat "Commit" "version", .meth "Commit" "__init__", .cls "Store", .mkr "Store", .noat "Store" "attribute_count", .noat "Store" "branches", .noat "Store" "commit_count", .noat "Store" "commits", .noat "Store" "current_branch", .noat "Store" "tags", .noat "Store" "working", .meth "Store" "__init__", .meth "Store" "head", .meth "Store" "head_version", .meth "Store" "is_changed", .meth "Store" "is_full", .meth "Store" "named_commits", .meth "Store" "version_of", .meth "Store" "make_commit", .meth "Store" "move_head", .meth "Store" "take_head_version", .cls "Session", .mkr "Session", .noat "Session" "store", .meth "Session" "__init__"]
abbrev qv : Program := PySem.W.view R.prog [140]
def loose0 : List PySem.Str := ["read_call", "row_count", "ancestors", "greatest_common_ancestor", "reachable", "origin", "first_parent_with", "changed_ids", "changes", "change_of", "changed_parts", "commit", "discard", "reset_branch", "collect_garbage", "taken_pairs", "possible_pairs", "correspondence", "is_moved", "squared_distance", "greatest_distance", "counted", "diff", "working_diff", "match_features", "ids_without", "is_attribute", "is_coordinate", "are_attributes", "are_vertices"]
def loose1 : List PySem.Str := ["make_feature", "with_attribute", "with_moved_vertex", "with_inserted_vertex", "without_vertex", "written_feature", "put_feature", "remove_feature", "set_attribute", "move_vertex", "insert_vertex", "remove_vertex", "merge_versions", "merge_feature", "merge_vertices", "merge_one_by_one", "merge_value", "merge", "merge_with", "merge_branch", "merge_commit", "revert", "cherry_pick", "apply_commit", "version_in", "parent_version", "has_no_room", "create_branch", "switch_branch", "delete_branch"]
def loose2 : List PySem.Str := ["set_tag", "delete_tag", "get_feature", "list_features", "get_state", "commit_hash", "version_hash", "hash_of_numbers", "bytes_of", "Commit", "Store", "log", "common_ancestor", "origin_of_attribute", "origin_of_vertices", "has_attribute", "has_vertices", "hash_of_commit", "Session", "answer_call", "create", "operations_by_number", "PUT_FEATURE", "PUT_FEATURE_ROW_COUNT", "GREATEST_ATTRIBUTE_COUNT", "GREATEST_FEATURE_ID", "GREATEST_ATTRIBUTE", "GREATEST_COORDINATE", "GREATEST_VERTEX_COUNT", "GREATEST_FEATURE_COUNT"]
def loose3 : List PySem.Str := ["GREATEST_COMMIT_COUNT", "GREATEST_BRANCH_COUNT", "GREATEST_TAG_COUNT", "WORKING_VERSION", "MISSING", "NO_CHANGE", "NO_INSTANCE", "IN_USE", "NAME_TAKEN", "OUT_OF_RANGE", "TOO_MANY", "NOT_THE_RIGHT_COUNT", "CONFLICTS", "ADDED", "REMOVED", "CHANGED", "VERTICES_PART", "KEPT", "MOVED", "RESHAPED", "OURS", "THEIRS", "REMOVED_AND_CHANGED", "ADDED_TWICE", "ATTRIBUTE", "VERTEX", "VERTICES", "NOTHING_NEW", "MOVED_ON", "NEW_COMMIT"]
def loose4 : List PySem.Str := ["FIRST_HASH", "FACTOR", "BYTES_OF_A_NUMBER", "BYTES_OF_A_HASH", "CREATE", "NUMBER_COUNTS"]
def loose : List PySem.Str := loose0 ++ (loose1 ++ (loose2 ++ (loose3 ++ (loose4))))
def tv_NUMBER_COUNTS : List Int := [1, 1, 1, 3, 4, 4, 2, 2, 1, 0, 0, 1, 1, 1, 1, 2, 1, 2, 0, 1, 2, 1, 1, 1, 2, 2, 1, 1, 0, 3, 0]
def ex (K : PySem.W.Frag) : Bool := He.tupB K "NUMBER_COUNTS" (tv_NUMBER_COUNTS.map He.Dv.int) && decide ((He.cT K ("origin_of_attribute", none)).2 ≠ (He.cT K ("origin_of_vertices", none)).2)
def tf : List He.Defn := [("origin_of_attribute", none), ("origin_of_vertices", none)]
/-- the objects looked at: the module's names, the classes, their names, the table, the defs, their codes -/
def as_ : List Addr := [3, 489, 571, 641, 488, 570, 640, 15, 22, 29, 36, 41, 48, 55, 62, 67, 72, 79, 86, 93, 100, 107, 112, 119, 126, 133, 138, 145, 150, 157, 164, 171, 176, 181, 188, 195, 200, 205, 210, 217, 224, 231, 238, 245, 252, 259, 266, 273, 280, 287, 292, 299, 306, 313, 320, 327, 334, 341, 348, 355, 362, 369, 376, 383, 390, 397, 404, 411, 418, 425, 432, 439, 446, 453, 460, 467, 472, 582, 589, 596, 603, 610, 617, 624, 652, 659, 666, 673, 486, 507, 514, 521, 528, 535, 542, 549, 554, 561, 568, 638, 21, 28, 35, 40, 47, 54, 61, 66, 71, 78, 85, 92, 99, 106, 111, 118, 125, 132, 137, 144, 149, 156, 163, 170, 175, 180, 187, 194, 199, 204, 209, 216, 223, 230, 237, 244, 251, 258, 265, 272, 279, 286, 291, 298, 305, 312, 319, 326, 333, 340, 347, 354, 361, 368, 375, 382, 389, 396, 403, 410, 417, 424, 431, 438, 445, 452, 459, 466, 471, 581, 588, 595, 602, 609, 616, 623, 651, 658, 665, 672, 485, 506, 513, 520, 527, 534, 541, 548, 553, 560, 567, 637]
abbrev KF (g : Addr → Option Obj) : PySem.W.Frag := He.frG g as_
def fa1 : List He.Fa := fa.take 90
def fa2 : List He.Fa := fa.drop 90
def tabs (g : Addr → Option Obj) (K : PySem.W.Frag) : Bool := tf.all fun p => PySem.W.codeHdIn K (He.cT K p).1 (He.cT K p).2 && ((K.lookup (He.cT K p).2).isNone && (match g (He.cT K p).2 with
  | some o => He.emptyTab o
  | none => false))
def ob1 (g : Addr → Option Obj) : Bool := fa1.all fun f => f.ok (KF g)
def ob2 (g : Addr → Option Obj) : Bool := fa2.all fun f => f.ok (KF g)
def ob3 (g : Addr → Option Obj) : Bool × List He.FnW := ((fn.all fun d => d.ok (KF g)) && (ex (KF g) && tabs g (KF g)), fn.map fun d => He.fnW (KF g) d.at_)
abbrev Ob : Type := Bool × Bool × Bool × List He.FnW
def obG (g : Addr → Option Obj) : Ob := (ob1 g, ob2 g, ob3 g)
/-- what the top leaves -/
structure Left (h : Heap) (K : PySem.W.Frag) : Prop where
  says : He.SaysD fa fn K
  more : ex K = true
  hd : ∀ p ∈ tf, PySem.W.codeHdIn K (He.cT K p).1 (He.cT K p).2 = true
  out : ∀ p ∈ tf, K.lookup (He.cT K p).2 = none
  empty : ∀ p ∈ tf, h.get? (He.cT K p).2 = some { cls := .none, data := .fields #[] }
theorem left_of {h : Heap} (e : obG h.get? = (true, true, true, fn.map He.DefD.val)) : Left h (KF h.get?) := by
  have e1 : (fa1.all fun f => f.ok (KF h.get?)) = true := congrArg (fun z : Ob => z.1) e
  have e2 : (fa2.all fun f => f.ok (KF h.get?)) = true := congrArg (fun z : Ob => z.2.1) e
  have e3 : ((fn.all fun d => d.ok (KF h.get?)) && (ex (KF h.get?) && tabs h.get? (KF h.get?))) = true := congrArg (fun z : Ob => z.2.2.1) e
  have e4 : (fn.map fun d => He.fnW (KF h.get?) d.at_) = fn.map He.DefD.val := congrArg (fun z : Ob => z.2.2.2) e
  obtain ⟨e5, e6⟩ := Bool.and_eq_true_iff.mp e3
  obtain ⟨e7, e8⟩ := Bool.and_eq_true_iff.mp e6
  have ef : (fa.all fun f => f.ok (KF h.get?)) = true := by
    rw [← List.take_append_drop 90 fa, List.all_append, Bool.and_eq_true]
    exact ⟨e1, e2⟩
  have key : ∀ p ∈ tf, PySem.W.codeHdIn (KF h.get?) (He.cT (KF h.get?) p).1 (He.cT (KF h.get?) p).2 = true ∧ (KF h.get?).lookup (He.cT (KF h.get?) p).2 = none ∧ h.get? (He.cT (KF h.get?) p).2 = some { cls := .none, data := .fields #[] } := fun p hp => by
    obtain ⟨q1, q2⟩ := Bool.and_eq_true_iff.mp (List.all_eq_true.mp e8 p hp)
    obtain ⟨q3, q4⟩ := Bool.and_eq_true_iff.mp q2
    refine ⟨q1, Option.isNone_iff_eq_none.mp q3, ?_⟩
    cases q : h.get? (He.cT (KF h.get?) p).2 with
    | none => rw [q] at q4; cases q4
    | some o => rw [q] at q4; rw [He.emptyTab_eq q4]
  refine ⟨?_, e7, fun p hp => (key p hp).1, fun p hp => (key p hp).2.1, fun p hp => (key p hp).2.2⟩
  show (_, _) = (true, _)
  rw [ef, e5, e4]
  rfl
def hk : PySem.W.Hook where
  α := Ob
  obs := fun s => obG s.heap.get?
  val := fun _ => (true, true, true, fn.map He.DefD.val)
  says := fun _ h => ∃ K : PySem.W.Frag, K.In h ∧ Left h K
  of := fun _ _ e => ⟨_, He.frG_in, left_of e⟩
  keeps := fun _ _ _ ⟨K, hK, c⟩ k => ⟨K, PySem.W.Frag.In.keeps hK k, ⟨c.says, c.more, c.hd, c.out, fun p hp => k _ _ (c.empty p hp)⟩⟩
def ob (s : PySem.W.SharedT) : Ob := obG (HandSHeadRun.getT s)
theorem ob_eq (s : PySem.W.SharedT) : ob s = hk.obs s.abs := by
  have e : HandSHeadRun.getT s = s.abs.heap.get? := funext (HandSHeadRun.getT_eq s)
  show obG (HandSHeadRun.getT s) = obG s.abs.heap.get?
  rw [e]
end Pv
end
section
set_option Elab.async false
set_option linter.all false
set_option maxRecDepth 100000
set_option maxHeartbeats 0
namespace Pv
open PySem PySem.Spec PyProof.Rows L2 HandSHeadRun PySem.W
noncomputable abbrev Fin (w : World) (os : OsState) : Option PySem.W.SharedT := endF (stepQ (denQ tabQ) R.prog w) 8000 R.prog w os
end Pv
end
section
set_option Elab.async false
set_option linter.all false
set_option maxRecDepth 100000
set_option maxHeartbeats 0
namespace Pv
open PySem PySem.Spec PyProof.Rows L2 HandSHeadRun PySem.W
theorem run_0 (w : World) (os : OsState) : (Fin w os).map (fun s => (looksF R.prog (boot_heap w.params) s.abs, seenQ qv loose (importedModules R.prog.main.body) (fun s => xlAt qv [] s && recOk [] s) s.abs)) = some (true, openGood qv loose) := by
  kernel_rfl
end Pv
end
section
set_option Elab.async false
set_option linter.all false
set_option maxRecDepth 100000
set_option maxHeartbeats 0
namespace Pv
open PySem PySem.Spec PyProof.Rows L2 HandSHeadRun PySem.W
theorem run_1 (w : World) (os : OsState) : (Fin w os).map (fun s => ob1 (getT s)) = some true := by
  kernel_rfl
end Pv
end
section
set_option Elab.async false
set_option linter.all false
set_option maxRecDepth 100000
set_option maxHeartbeats 0
namespace Pv
open PySem PySem.Spec PyProof.Rows L2 HandSHeadRun PySem.W
theorem run_2 (w : World) (os : OsState) : (Fin w os).map (fun s => ob2 (getT s)) = some true := by
  kernel_rfl
end Pv
end
section
set_option Elab.async false
set_option linter.all false
set_option maxRecDepth 100000
set_option maxHeartbeats 0
namespace Pv
open PySem PySem.Spec PyProof.Rows L2 HandSHeadRun PySem.W
theorem run_3 (w : World) (os : OsState) : (Fin w os).map (fun s => ob3 (getT s)) = some (true, fn.map He.DefD.val) := by
  kernel_rfl
end Pv
end
section
set_option Elab.async false
set_option linter.all false
set_option maxRecDepth 100000
set_option maxHeartbeats 0
namespace Pv
open PySem PySem.Spec PyProof.Rows L2 HandSHeadRun PySem.W
theorem run (w : World) : RunEqS R qv hk ob 8000 loose w := by
  intro os
  have r0 := run_0 w os
  have r1 := run_1 w os
  have r2 := run_2 w os
  have r3 := run_3 w os
  show (Fin w os).map _ = _
  generalize Fin w os = o at r0 r1 r2 r3
  cases o with
  | none => cases r0
  | some s =>
    have q0 := Option.some.inj r0
    have q1 := Option.some.inj r1
    have q2 := Option.some.inj r2
    have q3 := Option.some.inj r3
    show some (looksF R.prog (boot_heap w.params) s.abs, seenQ qv loose (importedModules R.prog.main.body) (fun s => xlAt qv [] s && recOk [] s) s.abs, (ob1 (getT s), ob2 (getT s), ob3 (getT s))) = some (true, openGood qv loose, (true, true, true, fn.map He.DefD.val))
    dsimp only at q0 q1 q2 q3
    rw [q1, q2, q3]
    rw [(Prod.mk.inj q0).1, (Prod.mk.inj q0).2]
end Pv
end
section
set_option Elab.async false
set_option linter.all false
set_option maxRecDepth 100000
set_option maxHeartbeats 2000000
namespace Pv
open PySem PySem.Spec PyProof.Rows L2 Kvg9
/-- what the program's top has left, as far as anybody asks -/
structure Tx (K : PySem.W.Frag) (mg : Str → Option Value) : Prop where
  ex : ∃ h : Heap, K.In h ∧ h.Ns mainGlobals mg
  says : He.SaysD fa fn K
  more : Pv.ex K = true
/-- the tables of code objects, as the machine finds them in the written part -/
def Tb (K : PySem.W.Frag) (mg : Str → Option Value) (base : Heap) : Prop := ∀ p ∈ tf, LamX.TabB base mg (He.cT K p).1 (He.cT K p).2
section
variable {P : Program} {w : World} {K : PySem.W.Frag} {mg : Str → Option Value}
theorem Tx.glo (T : Tx K mg) (i : Nat) {x : Str} (e : fa[i]? = some (.glo x) := by rfl) : mg x = some (.ref (He.ga K x)) := by
  obtain ⟨h, kin, ns⟩ := T.ex
  exact He.glo_ok kin ns (T.says.fact i e)
theorem Tx.cnt (T : Tx K mg) : He.tupB K "NUMBER_COUNTS" (tv_NUMBER_COUNTS.map He.Dv.int) = true := (Bool.and_eq_true_iff.mp T.more).1
theorem Tx.apartT (T : Tx K mg) : (He.cT K ("origin_of_attribute", none)).2 ≠ (He.cT K ("origin_of_vertices", none)).2 := of_decide_eq_true (Bool.and_eq_true_iff.mp T.more).2
theorem Tx.free (T : Tx K mg) (i : Nat) {x : Str} (e : fa[i]? = some (.free x) := by rfl) : mg x = none := by
  obtain ⟨h, kin, ns⟩ := T.ex
  exact He.free_ok kin ns (T.says.fact i e)
theorem Tx.int (T : Tx K mg) (i : Nat) {x : Str} {n : Int} (e : fa[i]? = some (.int x n) := by rfl) : ∃ t, mg x = some (.int n t) := by
  obtain ⟨h, kin, ns⟩ := T.ex
  exact He.int_ok kin ns (T.says.fact i e)
theorem Tx.cls (T : Tx K mg) (i : Nat) {x : Str} (e : fa[i]? = some (.cls x) := by rfl) : Cls K (He.ga K x) := He.cls_ok (T.says.fact i e)
theorem Tx.noat (T : Tx K mg) (i : Nat) {x f : Str} (e : fa[i]? = some (.noat x f) := by rfl) : NoAttr K (He.ga K x) f := He.noat_ok (T.says.fact i e)
theorem Tx.meth (T : Tx K mg) (i : Nat) {x m : Str} (e : fa[i]? = some (.meth x m) := by rfl) : Meth K (He.ga K x) m (He.fAd K (x, some m)) := He.meth_ok (T.says.fact i e)
theorem Tx.mkr (T : Tx K mg) (i : Nat) {x : Str} (e : fa[i]? = some (.mkr x) := by rfl) : Mk K (He.ga K x) (He.fAd K (x, some "__init__")) := He.mkr_ok (T.says.fact i e)
/-- a def of the text keeps its promise wherever k rooms are left -/
structure Ok (P : Program) (w : World) (K : PySem.W.Frag) (mg : Str → Option Value) (at_ : Str × Option Str) (ps : List Str) (k : Nat) (sp : Sp) : Prop where
  ex : ∃ fd, (∀ base, Tb K mg base → FnOk P w K mg base CX0 k (He.fAd K at_) fd ps sp) ∧ ∀ (s : Shared) (us : List Value), us.length = ps.length → BindsTo s fd ⟨us, []⟩ (ps.zip us)
  kp : PySem.W.keepIn K (.ref (He.fAd K at_)) = true
theorem Tx.ok (T : Tx K mg) (i : Nat) {d : He.DefD} {x qual : Str} {st : Stmt} {at_ : Str × Option Str} {N ps : List Str} {k : Nat} {sp : Sp} (e : fn[i]? = some d) (ed : d = ⟨at_, x, qual, defArgs st, defBody st, defScope st, [], []⟩) (S : FnScope N ps (defScope st))
    (len : ∀ vs H Q E, sp vs H Q E → vs.length = ps.length)
    (hb : ∀ (kV doc pm : Value) (an : Option Addr) (cdv ct : Value) (us : List Value), us.length = ps.length → bindArgs (PySem.W.fnOf x qual (defArgs st) (defBody st) (defScope st) .none kV doc pm an cdv ct) ⟨us, []⟩ = pure (ps.zip us))
    (body : ∀ (base : Heap) (_ : Tb K mg base) (cdv : Value) (A : Around) (outer : List Env) (s : Shared) (H : Hp) (vs : List V) (Q : VK) (E : XK), Room k (A.deeper (envOfC qual (defScope st) s.heap.objs.size (He.fAd K at_) cdv)) → sp vs H Q E →
      ∃ t, PSs (cxOf CX0 P w K mg base N qual (defScope st) (He.fAd K at_) cdv A outer s H E).nox (defBody st) t ∧ t { nx := fun _ H' => Q .non H', rt := Q } (start N vs) H) : Ok P w K mg at_ ps (k + 1) sp := by
  subst ed
  obtain ⟨fd, F⟩ := T.says.def_ i e
  refine ⟨⟨fd, fun base tb => FunD.ok F S len fun cdv A outer s H vs Q E hr h => ?_, FunD.bindsA F hb⟩, F.kp⟩
  obtain ⟨t, h1, h2⟩ := body base tb cdv A outer s H vs Q E hr h
  exact ⟨t, h1.nox, h2⟩
theorem Ok.mono {at_ : Str × Option Str} {ps : List Str} {j k : Nat} {sp : Sp} (o : Ok P w K mg at_ ps j sp) (h : j ≤ k) : Ok P w K mg at_ ps k sp := by
  obtain ⟨⟨fd, F, b⟩, kp⟩ := o
  exact ⟨⟨fd, fun base tb => (F base tb).mono h, b⟩, kp⟩
/-- how the arguments meet the parameters, where all are given -/
theorem binds_all {fd : FuncData} {ps : List Str} (b : ∀ (s : Shared) (us : List Value), us.length = ps.length → BindsTo s fd ⟨us, []⟩ (ps.zip us)) : Binds K fd ps [] := fun s us _ hl => by
  rw [List.append_nil] at hl ⊢
  exact b s us hl
end
section
variable {X : Cx} {k j : Nat} {ps : List Str} {sp : Sp} {x m c : Str} {p pos apos : Pos} {e o : Expr} {es : List Expr} {ta : TE} {t : TA}
/-- a constant of the module -/
theorem pe_gint {n : Int} (h : ∃ u, X.mg x = some (.int n u)) (hg : Gl X x) (hd : (x == ("__debug__" : Str)) = false := by decide) : PE X (.Name x pos) (tC (.int n)) := by
  obtain ⟨u, h⟩ := h
  exact pe_glob hg h ⟨_, rfl⟩ hd
theorem pe_callO (F : Ok X.prog X.w X.K X.mg (x, none) ps j sp) (tb : Tb X.K X.mg X.base) (hm : X.mg x = some (.ref (He.ga X.K x))) (hr : Room k X.A) (hg : Gl X x) (ha : PA X (e :: es) t) (hj : j ≤ k := by decide) (hdb : (x == ("__debug__" : Str)) = false := by decide)
    (he : starEach (e :: es) X.env = (false, eval e X.env) :: starEach es X.env := by rfl) (hpl : (backTo pos (starEach es X.env)).any (·.1) = false := by rfl) : PE X (.Call (.Name x p) (e :: es) [] pos) (tCall sp [] E0 t) := by
  obtain ⟨⟨fd, G, b⟩, kp⟩ := F
  exact pe_call (f := He.ga X.K x) ((G _ tb).mono hj) hr hg hm kp (binds_all b) .nil pass0 ha hdb he hpl
theorem pe_callO0 (F : Ok X.prog X.w X.K X.mg (x, none) ps j sp) (tb : Tb X.K X.mg X.base) (hm : X.mg x = some (.ref (He.ga X.K x))) (hr : Room k X.A) (hg : Gl X x) (hj : j ≤ k := by decide) (hdb : (x == ("__debug__" : Str)) = false := by decide) : PE X (.Call (.Name x p) [] [] pos) (tCall sp [] E0 tNil) := by
  obtain ⟨⟨fd, G, b⟩, kp⟩ := F
  exact pe_call0 (f := He.ga X.K x) ((G _ tb).mono hj) hr hg hm kp (binds_all b) .nil pass0 hdb
theorem pe_methO {pl : Sem Bool} (he : PE X o ta) (F : Ok X.prog X.w X.K X.mg (c, some m) ps j sp) (tb : Tb X.K X.mg X.base) (cl : Cls X.K (He.ga X.K c)) (hm : Meth X.K (He.ga X.K c) m (He.fAd X.K (c, some m))) (hr : Room k X.A) (ha : PA X (e :: es) t) (hj : j ≤ k := by decide)
    (hst : starEach (e :: es) X.env = (false, eval e X.env) :: starEach es X.env := by rfl) (hpl : (backTo pos (starEach es X.env)).any (·.1) = false := by rfl)
    (ht : eval (.Call (.Attribute o m apos) (e :: es) [] pos) X.env = (do
      let ov ← eval o X.env
      standAt apos.atName
      let (f, first) ← holding [ov] (getMethod ov m pl)
      callWith pos f first (backTo pos (starEach (e :: es) X.env)) (backToKw pos (keywordEach [] X.env))) := by rfl) :
    PE X (.Call (.Attribute o m apos) (e :: es) [] pos) (tMeth (He.ga X.K c) m sp [] E0 ta t) := by
  obtain ⟨⟨fd, G, b⟩, kp⟩ := F
  exact pe_meth he cl hm ((G _ tb).mono hj) hr (binds_all b) .nil pass0 ha hst hpl ht
theorem pe_methO0 {pl : Sem Bool} (he : PE X o ta) (F : Ok X.prog X.w X.K X.mg (c, some m) ps j sp) (tb : Tb X.K X.mg X.base) (cl : Cls X.K (He.ga X.K c)) (hm : Meth X.K (He.ga X.K c) m (He.fAd X.K (c, some m))) (hr : Room k X.A) (hj : j ≤ k := by decide)
    (ht : eval (.Call (.Attribute o m apos) [] [] pos) X.env = (do
      let ov ← eval o X.env
      standAt apos.atName
      let (f, first) ← holding [ov] (getMethod ov m pl)
      callWith pos f first (backTo pos (starEach [] X.env)) (backToKw pos (keywordEach [] X.env))) := by rfl) :
    PE X (.Call (.Attribute o m apos) [] [] pos) (tMeth (He.ga X.K c) m sp [] E0 ta tNil) := by
  obtain ⟨⟨fd, G, b⟩, kp⟩ := F
  exact pe_meth0 he cl hm ((G _ tb).mono hj) hr (binds_all b) .nil pass0 ht
theorem pe_makeO (F : Ok X.prog X.w X.K X.mg (x, some "__init__") ps j sp) (tb : Tb X.K X.mg X.base) (M : Mk X.K (He.ga X.K x) (He.fAd X.K (x, some "__init__"))) (hm : X.mg x = some (.ref (He.ga X.K x))) (hr : Room k X.A) (hg : Gl X x) (ha : PA X (e :: es) t) (hj : j + 1 ≤ k := by decide)
    (hdb : (x == ("__debug__" : Str)) = false := by decide) (he : starEach (e :: es) X.env = (false, eval e X.env) :: starEach es X.env := by rfl) (hpl : (backTo pos (starEach es X.env)).any (·.1) = false := by rfl) :
    PE X (.Call (.Name x p) (e :: es) [] pos) (tMake (He.ga X.K x) sp [] E0 t) := by
  obtain ⟨⟨fd, G, b⟩, kp⟩ := F
  exact pe_make M (G _ tb) (hr.mono hj) hg hm (binds_all b) .nil pass0 ha hdb he hpl
theorem pe_makeO0 (F : Ok X.prog X.w X.K X.mg (x, some "__init__") ps j sp) (tb : Tb X.K X.mg X.base) (M : Mk X.K (He.ga X.K x) (He.fAd X.K (x, some "__init__"))) (hm : X.mg x = some (.ref (He.ga X.K x))) (hr : Room k X.A) (hg : Gl X x) (hj : j + 1 ≤ k := by decide)
    (hdb : (x == ("__debug__" : Str)) = false := by decide) : PE X (.Call (.Name x p) [] [] pos) (tMake (He.ga X.K x) sp [] E0 tNil) := by
  obtain ⟨⟨fd, G, b⟩, kp⟩ := F
  exact pe_make0 M (G _ tb) (hr.mono hj) hg hm (binds_all b) .nil pass0 hdb
end
end Pv
end
section
set_option Elab.async false
set_option linter.all false
set_option maxRecDepth 100000
set_option maxHeartbeats 2000000
namespace Pv
open PySem PySem.Spec PyProof.Rows L2 Kvg9
open L2 (Dp DpAll)
/-! ### two versions compared -/
theorem sub_eq : ∀ {v w : Version}, Srt v → Srt w → (∀ f ∈ v, f ∈ w) → v.length = w.length → v = w
  | [], w, _, _, _, l => by
    cases w with
    | nil => rfl
    | cons _ _ => simp at l
  | f :: v, [], _, _, h, _ => by simpa using h f (by simp)
  | f :: v, g :: w, s, t, h, l => by
    have e : f = g := by
      rcases List.mem_cons.mp (h f (by simp)) with e | m
      · exact e
      · exfalso
        have sub : ∀ x ∈ f :: v, x ∈ w := fun x hx => by
          rcases List.mem_cons.mp (h x hx) with e | m2
          · have h1 := t.head f m
            rcases List.mem_cons.mp hx with e2 | m3
            · rw [← e2] at m; rw [e2]; rw [e2] at m; exact m
            · have h2 := s.head x m3
              rw [e] at h2
              omega
          · exact m2
        have hl : (f :: v).length ≤ w.length := by
          have nd : (f :: v).Nodup := List.nodup_iff_pairwise_ne.mpr (List.Pairwise.imp (fun {a b} x y => by rw [y] at x; exact Nat.lt_irrefl _ x) s)
          exact nd.length_le_of_subset sub
        simp at l hl
        omega
    subst e
    rw [sub_eq s.tail t.tail (fun x hx => by
      rcases List.mem_cons.mp (h x (List.mem_cons_of_mem _ hx)) with e | m
      · have := s.head x hx
        rw [e] at this
        omega
      · exact m) (by simpa using l)]
section
variable {X : Cx} {pins : List (Addr × Obj)} {σ : L2.St} {H : Hp} {s : Shared}
/-- features are compared -/
theorem fea_eqAt {A : Around} (I : L2.Inv X pins σ H s) (hu : A.units + 64 < cLine) {x y : V} {f g : Feature} (hx : Fea X.K H x f) (hy : Fea X.K H y g) (hi : f.id = g.id) {u v : Value} (rx : RelV x u) (ry : RelV y v) : SeqAt.EqAt A s u v (decide (f = g)) := by
  obtain ⟨as, r1⟩ := Dp.reads I _ x u hx rx
  obtain ⟨bs, r2⟩ := Dp.reads I _ y v hy ry
  have e := SeqAt.eqAt_reads _ _ A s u v as bs r1 r2 (dF_lay f) (dF_lay g) (by
    have := dF_dep f
    have := Nat.min_le_left (dF f).depth (dF g).depth
    omega)
  rw [show PyData.eqv (dF f) (dF g) = decide (f = g) from ?_] at e
  · exact e
  · have := dO_eqv (n := g.id) (o := some f) (p := some g) (fun a h => by cases h; exact hi) (fun a h => by cases h; rfl)
    rw [show PyData.eqv (dO (some f)) (dO (some g)) = PyData.eqv (dF f) (dF g) from rfl] at this
    rw [this]
    by_cases e : f = g <;> simp [e]
theorem hits_ver {A : Around} (I : L2.Inv X pins σ H s) (hu : A.units + 64 < cLine) {w : Version} {ls : List (Key × V)} {vb : List (Key × Value)} (D : VerD X.K H ls w) (rb : KV ls vb) : ∀ (ks : List (Key × V)) (va : List (Key × Value)) (fs : List Feature), KV ks va →
    Paired (fun p (f : Feature) => p.1 = kI f.id ∧ Fea X.K H p.2 f) ks fs → ∃ r, PySem.W.KeqHits A s vb va r ∧ (r = true ↔ ∀ f ∈ fs, find w f.id = some f)
  | [], _, _, h, q => by
    cases h
    cases q
    exact ⟨true, .nil, by simp⟩
  | p :: ks, _, _, h, q => by
    cases h with
    | @cons _ q' _ va h t =>
      cases q with
      | @cons _ f _ fs q1 qt =>
        obtain ⟨r, h1, h2⟩ := hits_ver I hu D rb ks va fs t qt
        obtain ⟨k, u⟩ := q'
        obtain ⟨ek, ru⟩ := h
        have ek : p.1 = k := ek
        obtain ⟨e1, e3⟩ := q1
        cases hw : find w f.id with
        | none =>
          refine ⟨false, PySem.W.KeqHits.miss ?_, by
            simp only [Bool.false_eq_true, false_iff]
            intro z
            have := z f (by simp)
            rw [hw] at this
            cases this⟩
          have hv := D.none hw
          rw [← ek, e1]
          exact RelO.none_of (by have q := rb.val (kI f.id); rw [hv] at q; exact q)
        | some g =>
          obtain ⟨y, hy, hf⟩ := D.some hw
          have hg : g.id = f.id := (find_mem hw).2
          obtain ⟨w', hw', rw'⟩ := RelO.some_of (v := y) (o := valueAt vb (kI f.id)) (by have q := rb.val (kI f.id); rw [hy] at q; exact q)
          refine ⟨decide (f = g) && r, .hit (by rw [← ek, e1]; exact hw') (fea_eqAt I hu e3 hf hg.symm ru rw') h1, ?_⟩
          rw [Bool.and_eq_true, decide_eq_true_eq, h2]
          constructor
          · rintro ⟨q1, q2⟩ f' hf'
            rcases List.mem_cons.mp hf' with e | m
            · rw [e, hw, q1]
            · exact q2 f' m
          · intro z
            refine ⟨?_, fun f' hf' => z f' (List.mem_cons_of_mem _ hf')⟩
            have := z f (by simp)
            rw [hw] at this
            exact (Option.some.inj this).symm
def rVerEq (K : PySem.W.Frag) : R2 := fun x y H Q => ∃ a b v w, x = .ref a ∧ y = .ref b ∧ VerAt K H a v ∧ VerAt K H b w ∧ Srt v ∧ Srt w ∧ Q (.bl (decide (v = w))) H
def rVerNe (K : PySem.W.Frag) : R2 := fun x y H Q => ∃ a b v w, x = .ref a ∧ y = .ref b ∧ VerAt K H a v ∧ VerAt K H b w ∧ Srt v ∧ Srt w ∧ Q (.bl (!decide (v = w))) H
theorem valV_mem {kvs : List (Key × V)} (nd : (kvs.map (·.1)).Nodup) : ∀ {p : Key × V}, p ∈ kvs → valV kvs p.1 = some p.2 := by
  induction kvs with
  | nil => intro p h; simp at h
  | cons q r ih =>
    intro p h
    rw [List.map_cons, List.nodup_cons] at nd
    rcases List.mem_cons.mp h with e | m
    · rw [e]; exact valV_pos rfl
    · rw [valV_neg (fun z => nd.1 (by rw [z]; exact List.mem_map_of_mem m)), ih nd.2 m]
theorem VerD.mem {K : PySem.W.Frag} {kvs : List (Key × V)} {v : Version} (D : VerD K H kvs v) {p : Key × V} (hp : p ∈ kvs) : ∃ f, p.1 = kI f.id ∧ f ∈ v ∧ Fea K H p.2 f := by
  obtain ⟨n, e⟩ := D.only p.1 (List.mem_map_of_mem hp)
  have h1 := valV_mem D.nd hp
  rw [e] at h1
  have h2 := D.get n
  rw [h1] at h2
  cases hf : find v n with
  | none => rw [hf] at h2; exact h2.elim
  | some f =>
    rw [hf] at h2
    obtain ⟨m, q⟩ := find_mem hf
    exact ⟨f, by rw [q]; exact e, m, h2⟩
/-- a dict's pairs and the features that they stand for -/
theorem VerD.paired {K : PySem.W.Frag} {v : Version} {kvs : List (Key × V)} (D : VerD K H kvs v) (s : Srt v) : ∃ fs : List Feature, Paired (fun p (f : Feature) => p.1 = kI f.id ∧ Fea K H p.2 f) kvs fs ∧ ∀ f, f ∈ fs ↔ f ∈ v := by
  have make : ∀ ks : List (Key × V), (∀ p ∈ ks, p ∈ kvs) → ∃ fs : List Feature, Paired (fun p (f : Feature) => p.1 = kI f.id ∧ Fea K H p.2 f) ks fs ∧ (∀ f ∈ fs, f ∈ v) ∧ ∀ p ∈ ks, ∃ f ∈ fs, p.1 = kI f.id := by
    intro ks
    induction ks with
    | nil => exact fun _ => ⟨[], .nil, by simp, by simp⟩
    | cons p ks ih =>
      intro h
      obtain ⟨fs, a1, a2, a3⟩ := ih fun q hq => h q (List.mem_cons_of_mem _ hq)
      obtain ⟨f, e, m, hf⟩ := D.mem (h p (by simp))
      refine ⟨f :: fs, .cons ⟨e, hf⟩ a1, fun g hg => ?_, fun q hq => ?_⟩
      · rcases List.mem_cons.mp hg with e | m2
        · rw [e]; exact m
        · exact a2 g m2
      · rcases List.mem_cons.mp hq with e2 | m2
        · rw [e2]; exact ⟨f, by simp, e⟩
        · obtain ⟨g, hg, e3⟩ := a3 q m2
          exact ⟨g, List.mem_cons_of_mem _ hg, e3⟩
  obtain ⟨fs, a1, a2, a3⟩ := make kvs fun _ h => h
  refine ⟨fs, a1, fun f => ⟨a2 f, fun hf => ?_⟩⟩
  have hk : kI f.id ∈ kvs.map (·.1) := (D.keys _).mpr ⟨f.id, rfl, find_isSome.mpr ⟨f, hf, rfl⟩⟩
  obtain ⟨p, hp, e⟩ := List.mem_map.mp hk
  obtain ⟨g, hg, e2⟩ := a3 p hp
  have : g.id = f.id := (kI_inj.mp (e.symm.trans e2)).symm
  have e3 := find_of_mem s (a2 g hg)
  rw [this, find_of_mem s hf] at e3
  rw [Option.some.inj e3]
  exact hg
theorem ver_cmp {A : Around} (I : L2.Inv X pins σ H s) (hu : A.units + 64 < cLine) {v w : Version} {ks ls : List (Key × V)} {va vb : List (Key × Value)} (C : VerD X.K H ks v) (D : VerD X.K H ls w) (sv : Srt v) (sw : Srt w) (ra : KV ks va) (rb : KV ls vb) :
    ∃ r, PySem.W.KeqHits A s vb va r ∧ (va.length == vb.length && r) = decide (v = w) := by
  obtain ⟨fs, f1, f2⟩ := C.paired sv
  obtain ⟨r, h1, h2⟩ := hits_ver I hu D rb ks va fs ra f1
  refine ⟨r, h1, ?_⟩
  have l1 : va.length = v.length := by rw [← ra.length]; exact C.len sv
  have l2 : vb.length = w.length := by rw [← rb.length]; exact D.len sw
  have key : (va.length == vb.length && r) = true ↔ v = w := by
    rw [Bool.and_eq_true, beq_iff_eq, l1, l2, h2]
    constructor
    · rintro ⟨hl, z⟩
      exact sub_eq sv sw (fun f hf => (find_mem (z f ((f2 f).mpr hf))).1) hl
    · intro e
      subst e
      exact ⟨rfl, fun f hf => find_of_mem sv ((f2 f).mp hf)⟩
  cases q : (va.length == vb.length && r) with
  | true => rw [decide_eq_true (key.mp q)]
  | false => rw [decide_eq_false (fun z => by rw [key.mpr z] at q; cases q)]
theorem op_verEq (hu : X.A.units + 65 < cLine) : OpR X (compareOp .Eq) (rVerEq X.K) := by
  intro pins s σ H x y v u Q I rx ry h
  obtain ⟨a, b, va, vb, rfl, rfl, ⟨ks, ea, C⟩, ⟨ls, eb, D⟩, sv, sw, q⟩ := h
  obtain rfl : v = Value.ref a := rx
  obtain rfl : u = Value.ref b := ry
  obtain ⟨_, ya, wa, ra, da⟩ := (show ObjOk X.prog X.w H s.heap a (.dK ks) from I.hok a _ ea)
  obtain ⟨_, yb, wb, rb, db⟩ := (show ObjOk X.prog X.w H s.heap b (.dK ls) from I.hok b _ eb)
  obtain ⟨r, h1, h2⟩ := ver_cmp (A := X.A.in1) I hu C D sv sw ra rb
  exact PySem.W.keq_eq (knd := mixKind X.prog X.w) (r := r) ya yb da db (by omega) (fun _ => h1) (by rw [h2]; exact fin_bl I q rfl)
theorem op_verNe (hu : X.A.units + 65 < cLine) : OpR X (compareOp .NotEq) (rVerNe X.K) := by
  intro pins s σ H x y v u Q I rx ry h
  obtain ⟨a, b, va, vb, rfl, rfl, ⟨ks, ea, C⟩, ⟨ls, eb, D⟩, sv, sw, q⟩ := h
  obtain rfl : v = Value.ref a := rx
  obtain rfl : u = Value.ref b := ry
  obtain ⟨_, ya, wa, ra, da⟩ := (show ObjOk X.prog X.w H s.heap a (.dK ks) from I.hok a _ ea)
  obtain ⟨_, yb, wb, rb, db⟩ := (show ObjOk X.prog X.w H s.heap b (.dK ls) from I.hok b _ eb)
  obtain ⟨r, h1, h2⟩ := ver_cmp (A := X.A.in1) I hu C D sv sw ra rb
  exact PySem.W.keq_ne (knd := mixKind X.prog X.w) (r := r) ya yb da db (by omega) (fun _ => h1) (by rw [h2]; exact fin_bl I q rfl)
end
end Pv
end
section
set_option Elab.async false
set_option linter.all false
set_option maxRecDepth 100000
set_option maxHeartbeats 2000000
namespace Pv
open PySem PySem.Spec PyProof.Rows L2 Kvg9 PySem.AutoSeq1
open L2 (Dp DpAll)
section
variable {X : Cx}
/-- either walk -/
theorem pi_or {tg e : Expr} {t1 t2 : TI} (h1 : PI X tg e t1) (h2 : PI X tg e t2) : PI X tg e (fun σ H R => t1 σ H R ∨ t2 σ H R) :=
  ⟨fun pins s σ H R I h => h.elim (h1.run pins s σ H R I) (h2.run pins s σ H R I)⟩
/-- l.extend of a list or a tuple -/
def rExtS (K : PySem.W.Frag) : V → List V → Hp → VK → Prop := fun x vs H Q => ∃ l b xs zs, x = .ref l ∧ vs = [.ref b] ∧ H l = some (.lst xs) ∧ (H b = some (.lst zs) ∨ SqT K H b zs) ∧ xs.length + zs.length ≤ sizeLine ∧ Q .non (upd H l (.lst (xs ++ zs)))
theorem extend_tup (l : Addr) (items : Array Value) (n : Nat) (b : Addr) (items2 : Array Value) (n2 : Nat) (dd : Option Addr) (sl : Array (Option Value)) (hs0 : ¬(!items.isEmpty && Builtin.List.listTooLong (items.size + items2.size)) = true) (hs1 : items.size ≤ sizeLine) (hs2 : items.size + items2.size ≤ sizeLine + 1) :
    Meets (Builtin.«list.extend» ⟨[.ref l, .ref b], []⟩) (fun _ R s => s.heap.get? l = some { cls := .type "list", dict := none, data := .seq items n, slots := #[] } ∧ s.heap.get? b = some { cls := .type "tuple", dict := dd, data := .seq items2 n2, slots := sl } ∧ R (.ok (.ret Value.none)) { s with heap := s.heap.update l (Obj.mapSeq fun x => x ++ items2), toks := s.toks }) :=
  .of_wp fun prog w A R s h => by
    obtain ⟨hp, g, d, tk, os⟩ := s
    obtain ⟨hl, hb, h⟩ := h
    have f1 := idx_int
    have f2 := AutoSeq1.sub_tuple_tuple
    have f3 := AutoSeq1.sub_list_list
    have f4 := AutoSeq1.sub_tuple_list
    have f5 := AutoSeq1.sub_list_tuple
    have hz' : (items ++ items2).size ≤ sizeLine + 1 := by rw [Array.size_append]; exact hs2
    wp_walk using (wpAny_updateSeq hl rfl (hz := hs1) (_hz' := hz')), wpAny_loadPart' hl, wpAny_loadPart' hb
    exact ⟨_, rfl, h⟩
theorem mt_extS : MtM X "list.extend" (rExtS X.K) := by
  intro pins s σ H x vs v us Q I rx rv h
  obtain ⟨l, b, xs, zs, rfl, rfl, hl, hb, hz, q⟩ := h
  rcases hb with hb | hb
  · exact mt_extend pins s σ H _ _ _ _ Q I rx rv ⟨l, b, xs, zs, rfl, rfl, hl, hb, hz, q⟩
  · cases rx
    obtain ⟨u, rfl, ru⟩ := rv.one
    cases ru
    obtain ⟨z, its, n, r, hll, e⟩ := I.lstM hl
    obtain ⟨its2, r2, ⟨o, ho, hc, n2, hd⟩, z2⟩ := I.tuple hb
    have hl2 := r2.length
    have hsz : its.toArray.size + its2.toArray.size ≤ sizeLine := by rw [List.size_toArray, List.size_toArray]; omega
    obtain ⟨oc, od, dt, osl⟩ := o
    cases hc
    cases hd
    have hlong : ¬ (!its.toArray.isEmpty && Builtin.List.listTooLong (its.toArray.size + its2.toArray.size)) = true := by
      rw [notLongL hsz, Bool.and_false]
      exact Bool.false_ne_true
    refine call_meets F.slot_list_extend ⟨_, e, rfl⟩ F.entry_list_extend (F.args_list_extend_2 _ _) (extend_tup l its.toArray n b its2.toArray n2 od osl hlong (by rw [List.size_toArray]; omega) (by omega)) ⟨e, ho, ?_⟩
    refine ⟨.non, _, I.lset (its' := its ++ its2) hl e (by simp) (r.append r2) ?_, rfl, q⟩
    rw [List.length_append]
    omega
/-- dict(d) -/
theorem kDict : CallR X (.type "dict") (fun xs H Q => ∃ a kvs, xs = [.ref a] ∧ Rd H a (.dK kvs) ∧ ∀ p, H p = none → Q (.ref p) (upd H p (.dK kvs))) := by
  intro pins s σ H xs us Q I r h
  obtain ⟨a, kvs, rfl, hd, k⟩ := h
  obtain ⟨u, rfl, ru⟩ := r.one
  cases ru
  exact d_copyOf I hd fun p s' np I' => ⟨.ref p, _, I', rfl, k p np⟩
end
end Pv
end
section
set_option Elab.async false
set_option linter.all false
set_option maxRecDepth 100000
set_option maxHeartbeats 2000000
namespace Pv
open PySem PySem.Spec PyProof.Rows L2 Kvg9
open L2 (Dp DpAll)
theorem itT {c : Bool} {A B : Prop} (h : c = true) (x : A) : if c = true then A else B := by
  rw [if_pos h]; exact x
theorem itF {c : Bool} {A B : Prop} (h : c = false) (x : B) : if c = true then A else B := by
  rw [h]; exact x
theorem nth_int {l : List Int} {i : Nat} {x : V} (h : (l.map V.int)[i]? = some x) : ∃ n, l[i]? = some n ∧ x = .int n := by
  rw [List.getElem?_map] at h
  cases e : l[i]? with
  | none => rw [e] at h; cases h
  | some n => rw [e] at h; exact ⟨n, rfl, (Option.some.inj h).symm⟩
theorem nth_map {α : Type} {f : α → V} {l : List α} {i : Nat} {x : V} (h : (l.map f)[i]? = some x) : ∃ n, l[i]? = some n ∧ x = f n := by
  rw [List.getElem?_map] at h
  cases e : l[i]? with
  | none => rw [e] at h; cases h
  | some n => rw [e] at h; exact ⟨n, rfl, (Option.some.inj h).symm⟩
theorem take_snoc {α : Type} {l : List α} {i : Nat} {x : α} (h : l[i]? = some x) : l.take (i + 1) = l.take i ++ [x] := by
  rw [List.take_add_one, h]; rfl
theorem take_all {α : Type} {l : List α} : l.take l.length = l := List.take_length
theorem small {n m : Nat} (h : n ≤ m) (hm : m < 1000000 := by decide) : n < sizeLine := by rw [sizeLine_eq]; omega
theorem small' {n m : Nat} (h : n ≤ m) (hm : m < 1000000 := by decide) : n ≤ sizeLine := Nat.le_of_lt (small h hm)
theorem _root_.L2.SqT.same {K : PySem.W.Frag} {H H' : Hp} {a : Addr} {xs : List V} (e : Same H H') (h : SqT K H a xs) : SqT K H' a xs := L2.SqT.tup (Tup.of e) h
/-- the state of a comprehension that keeps what stands: the list at D holds what is made so far -/
def LcP (H0 : Hp) (D : Addr) (R : Nat → List V → Hp → Prop) (i : Nat) (H : Hp) : Prop := Same H0 H ∧ ∃ acc, H D = some (.lst acc) ∧ acc.length ≤ i ∧ R i acc H
section
variable {H0 H H4 : Hp} {D : Addr} {R : Nat → List V → Hp → Prop} {i : Nat} {acc : List V} {y : V}
theorem LcP.start (f0 : H0 D = none) (r : R 0 [] (upd H0 D (.lst []))) : LcP H0 D R 0 (upd H0 D (.lst [])) := ⟨same_upd f0, [], upd_same, Nat.le_refl _, r⟩
theorem LcP.put {n : Nat} (f0 : H0 D = none) (hs : Same H0 H) (hD : H D = some (.lst acc)) (hl : acc.length ≤ i) (s : Same H H4) (hi : i < n) (r : R (i + 1) (acc ++ [y]) (upd H4 D (.lst (acc ++ [y])))) (hn : n < 1000000 := by decide) :
    ∃ acc', H4 D = some (.lst acc') ∧ acc'.length < sizeLine ∧ LcP H0 D R (i + 1) (upd H4 D (.lst (acc' ++ [y]))) := by
  refine ⟨acc, s _ _ hD, small (Nat.le_of_lt (Nat.lt_of_le_of_lt hl hi)) hn, fun b o e => ?_, acc ++ [y], upd_same, by simp; exact hl, r⟩
  rw [upd_ne (ne_of_none e f0)]
  exact s _ _ (hs _ _ e)
theorem LcP.skip (hs : Same H0 H) (hD : H D = some (.lst acc)) (hl : acc.length ≤ i) (s : Same H H4) (r : R (i + 1) acc H4) : LcP H0 D R (i + 1) H4 := ⟨hs.trans s, acc, s _ _ hD, Nat.le_succ_of_le hl, r⟩
end
/-- .. that makes ints -/
abbrev RI (l : List Int) : Nat → List V → Hp → Prop := fun i acc _ => acc = (l.take i).map V.int
theorem RI.next {l : List Int} {i : Nat} {n : Int} {acc : List V} {H H' : Hp} (h : RI l i acc H) (e : l[i]? = some n) : RI l (i + 1) (acc ++ [V.int n]) H' := by
  show acc ++ [V.int n] = _
  rw [show acc = _ from h, take_snoc e, List.map_append]; rfl
abbrev RB (l : List Bool) : Nat → List V → Hp → Prop := fun i acc _ => acc = (l.take i).map V.bl
theorem RB.next {l : List Bool} {i : Nat} {n : Bool} {acc : List V} {H H' : Hp} (h : RB l i acc H) (e : l[i]? = some n) : RB l (i + 1) (acc ++ [V.bl n]) H' := by
  show acc ++ [V.bl n] = _
  rw [show acc = _ from h, take_snoc e, List.map_append]; rfl
/-- .. that makes tuples, or other data -/
abbrev RD (K : PySem.W.Frag) (l : List PyData) : Nat → List V → Hp → Prop := fun i acc H => DpAll K H acc (l.take i)
theorem DpAll.snoc {K : PySem.W.Frag} {H : Hp} : ∀ {vs : List V} {ds : List PyData} {v : V} {d : PyData}, DpAll K H vs ds → Dp K H v d → DpAll K H (vs ++ [v]) (ds ++ [d])
  | _, _, _, _, .nil, h => .cons h .nil
  | _, _, _, _, .cons a b, h => .cons a (DpAll.snoc b h)
theorem DpAll.take {K : PySem.W.Frag} {H : Hp} : ∀ (n : Nat) {vs : List V} {ds : List PyData}, DpAll K H vs ds → DpAll K H (vs.take n) (ds.take n)
  | 0, _, _, _ => .nil
  | _ + 1, _, _, .nil => .nil
  | n + 1, _, _, .cons a b => .cons a (DpAll.take n b)
theorem DpAll.drop {K : PySem.W.Frag} {H : Hp} : ∀ (n : Nat) {vs : List V} {ds : List PyData}, DpAll K H vs ds → DpAll K H (vs.drop n) (ds.drop n)
  | 0, _, _, h => h
  | _ + 1, _, _, .nil => .nil
  | n + 1, _, _, .cons _ b => DpAll.drop n b
theorem DpAll.app {K : PySem.W.Frag} {H : Hp} : ∀ {vs ws : List V} {ds es : List PyData}, DpAll K H vs ds → DpAll K H ws es → DpAll K H (vs ++ ws) (ds ++ es)
  | _, _, _, _, .nil, h => h
  | _, _, _, _, .cons a b, h => .cons a (DpAll.app b h)
theorem RD.next {K : PySem.W.Frag} {l : List PyData} {i : Nat} {d : PyData} {v : V} {acc : List V} {H H' : Hp} (nl : noLs l = true) (h : RD K l i acc H) (t : Tup H H') (e : l[i]? = some d) (hd : Dp K H' v d) : RD K l (i + 1) (acc ++ [v]) H' := by
  show DpAll K H' _ _
  rw [take_snoc e]
  refine DpAll.snoc (DpAllT.tup t _ _ ?_ h) hd
  have : ∀ (l : List PyData) (n : Nat), noLs l = true → noLs (l.take n) = true := by
    intro l
    induction l with
    | nil => intro n _; cases n <;> rfl
    | cons d l ih =>
      intro n h
      obtain ⟨h1, h2⟩ : noL d = true ∧ noLs l = true := Bool.and_eq_true_iff.mp h
      cases n with
      | zero => rfl
      | succ n => show (noL d && noLs (l.take n)) = true; rw [h1, ih n h2]; rfl
  exact this l i nl
theorem tup_upd_lst {H : Hp} {D : Addr} {xs ys : List V} (h : H D = some (.lst xs)) : Tup H (upd H D (.lst ys)) := Tup.upd h rfl
/-- rows: tuples of ints -/
abbrev dR (r : List Int) : PyData := .tuple (dI r)
abbrev Rows (K : PySem.W.Frag) (H : Hp) (xs : List V) (rs : List (List Int)) : Prop := DpAll K H xs (rs.map dR)
theorem rows_noL (rs : List (List Int)) : noLs (rs.map dR) = true := noLs_map (e := dR) (fun r => show noLs (r.map PyData.int) = true from noLs_map (e := PyData.int) (fun _ => rfl) r) rs
theorem Rows.tup {K : PySem.W.Frag} {H H' : Hp} {xs : List V} {rs : List (List Int)} (t : Tup H H') (h : Rows K H xs rs) : Rows K H' xs rs := DpAllT.tup t _ _ (rows_noL rs) h
theorem Rows.at {K : PySem.W.Frag} {H : Hp} {xs : List V} {rs : List (List Int)} {i : Nat} {x : V} (h : Rows K H xs rs) (e : xs[i]? = some x) : ∃ r b, rs[i]? = some r ∧ x = .ref b ∧ SqT K H b (r.map V.int) := by
  obtain ⟨d, h1, h2⟩ := DpAll.at' h e
  rw [List.getElem?_map] at h1
  cases q : rs[i]? with
  | none => rw [q] at h1; cases h1
  | some r =>
    rw [q] at h1
    cases h1
    obtain ⟨b, ys, rfl, s, d⟩ := dp_tup h2
    have := dp_ints d
    subst this
    exact ⟨r, b, rfl, rfl, s⟩
/-! ### walks over anything of a known length -/
theorem lc_any {J : It} {n : Nat} {g : TG} {tt : TT} {te : TE} {vs : List Nat} {σ : L2.St} {H1 : Hp} {D : Addr} {Qd : Hp → Prop} (Pv : Nat → Hp → Prop) (start : Pv 0 (upd H1 D (.lst []))) (going : ∀ i H, i < n → Pv i H → J.go i H) (over : ∀ H, Pv n H → J.stop n H)
    (turn : ∀ i x H H', i < n → Pv i H → J.yld i H x H' → g x (wipe σ vs) H' fun σ2 H2 => wipe σ2 vs = wipe σ vs ∧ tt σ2 H2 fun b H3 => if b = true then te σ2 H3 fun y H4 => ∃ acc, H4 D = some (.lst acc) ∧ acc.length < sizeLine ∧ Pv (i + 1) (upd H4 D (.lst (acc ++ [y]))) else Pv (i + 1) H3) (done : ∀ H, Pv n H → Qd H) :
    ∃ W : Nat → Nat → Hp → Prop, (∃ m, W 0 m (upd H1 D (.lst []))) ∧ ∀ i m H, W i m H → (J.stop i H ∧ Qd H) ∨ (J.go i H ∧ ∃ Nx : Hp → Prop, (∀ H', Nx H' → ∃ m', m' < m ∧ W (i + 1) m' H') ∧
      ∀ x H', J.yld i H x H' → g x (wipe σ vs) H' fun σ2 H2 => wipe σ2 vs = wipe σ vs ∧ tt σ2 H2 fun b H3 => if b = true then te σ2 H3 fun y H4 => ∃ acc, H4 D = some (.lst acc) ∧ acc.length < sizeLine ∧ Nx (upd H4 D (.lst (acc ++ [y]))) else Nx H3) := by
  refine ⟨fun i m H => m + i = n ∧ Pv i H, ⟨n, rfl, start⟩, fun i m H h => ?_⟩
  obtain ⟨e, p⟩ := h
  rcases Nat.lt_or_ge i n with q | q
  · exact .inr ⟨going i H q p, Pv (i + 1), fun H' p' => ⟨n - (i + 1), by omega, by omega, p'⟩, fun x H' y => turn i x H H' q p y⟩
  · obtain rfl : i = n := by omega
    exact .inl ⟨over H p, done H p⟩
theorem for_any {J : It} {n : Nat} {g : TG} {tb : TS} {D : Ends} {σ : L2.St} {H : Hp} (Pv : Nat → L2.St → Hp → Prop) (start : Pv 0 σ H) (going : ∀ i σ H, i < n → Pv i σ H → J.go i H) (over : ∀ σ H, Pv n σ H → J.stop n H)
    (turn : ∀ i x σ H H', i < n → Pv i σ H → J.yld i H x H' → g x σ H' fun σ2 H2 => tb { D with nx := Pv (i + 1), ct := Pv (i + 1), bk := D.nx } σ2 H2) (done : ∀ σ H, Pv n σ H → D.nx σ H) :
    ∃ W : Nat → Nat → L2.St → Hp → Prop, (∃ m, W 0 m σ H) ∧ ∀ i m σ H, W i m σ H → (J.stop i H ∧ D.nx σ H) ∨ (J.go i H ∧ ∃ N : L2.St → Hp → Prop, (∀ σ' H', N σ' H' → ∃ m', m' < m ∧ W (i + 1) m' σ' H') ∧
      ∀ v H', J.yld i H v H' → g v σ H' fun σ2 H2 => tb { D with nx := N, ct := N, bk := D.nx } σ2 H2) := by
  refine ⟨fun i m σ H => m + i = n ∧ Pv i σ H, ⟨n, rfl, start⟩, fun i m σ H h => ?_⟩
  obtain ⟨e, p⟩ := h
  rcases Nat.lt_or_ge i n with q | q
  · exact .inr ⟨going i σ H q p, Pv (i + 1), fun σ' H' p' => ⟨n - (i + 1), by omega, by omega, p'⟩, fun x H' y => turn i x σ H H' q p y⟩
  · obtain rfl : i = n := by omega
    exact .inl ⟨over σ H p, done σ H p⟩
/-! ### tuples joined and cut, whatever comes out as a new one -/
section
variable {K : PySem.W.Frag} {H : Hp} {Q : VK} {a b : Addr} {xs ys : List V}
theorem catT (ha : SqT K H a xs) (hb : SqT K H b ys) (hl : xs.length + ys.length ≤ sizeLine) (k : ∀ p H', Same H H' → SqT K H' p (xs ++ ys) → Q (.ref p) H') : rCatA K (.ref a) (.ref b) H Q := by
  refine ⟨a, b, xs, ys, rfl, rfl, ha, hb, hl, fun e => ?_, fun _ e => ?_, fun _ _ p np => ?_⟩
  · subst e
    exact k b H (Same.refl H) hb
  · subst e
    exact k a H (Same.refl H) (by rw [List.append_nil]; exact ha)
  · exact k p _ (same_upd np) (SqT.of upd_same)
theorem slT {lo hi : Option Int} (ha : SqT K H a xs) (k : ∀ p H', Same H H' → SqT K H' p (cutV xs lo hi) → Q (.ref p) H') : rSlA K (.ref a) lo hi H Q := by
  refine ⟨a, xs, rfl, ha, fun e => ?_, fun _ p np => ?_⟩
  · refine k a H (Same.refl H) ?_
    have : cutV xs lo hi = xs := by
      show (xs.drop (HT.sIx xs.length 0 lo)).take (HT.sIx xs.length xs.length hi - HT.sIx xs.length 0 lo) = xs
      rw [e.1, e.2]
      simp
    rw [this]
    exact ha
  · exact k p _ (same_upd np) (SqT.of upd_same)
theorem slTF {lo : Option Int} {σ : L2.St} (ha : SqT K H a xs) (k : ∀ p H', Same H H' → SqT K H' p (cutV xs lo none) → Q (.ref p) H') : tNoPart σ H fun u H3 => rSlA K (.ref a) lo u H3 Q := slT ha k
end
theorem cut_to (xs : List V) (i : Nat) : cutV xs none (some (i : Int)) = xs.take i := by
  show (xs.drop (HT.sIx xs.length 0 none)).take (HT.sIx xs.length xs.length (some (i : Int)) - HT.sIx xs.length 0 none) = _
  rw [HT.sIx_none, HT.sIx_nat]
  simp
theorem cut_from (xs : List V) (i : Nat) : cutV xs (some (i : Int)) none = xs.drop i := by
  show (xs.drop (HT.sIx xs.length 0 (some (i : Int)))).take (HT.sIx xs.length xs.length none - HT.sIx xs.length 0 (some (i : Int))) = _
  rw [HT.sIx_none, HT.sIx_nat]
  rcases Nat.le_total i xs.length with h | h
  · rw [Nat.min_eq_left h, List.take_of_length_le (by rw [List.length_drop]; exact Nat.le_refl _)]
  · rw [Nat.min_eq_right h]
    simp
    omega
theorem cut_mid (xs : List V) {i j : Nat} (h : j ≤ xs.length) (hi : i ≤ j) : cutV xs (some (i : Int)) (some (j : Int)) = (xs.drop i).take (j - i) := by
  show (xs.drop (HT.sIx xs.length 0 (some (i : Int)))).take (HT.sIx xs.length xs.length (some (j : Int)) - HT.sIx xs.length 0 (some (i : Int))) = _
  rw [HT.sIx_nat, HT.sIx_nat, Nat.min_eq_left h, Nat.min_eq_left (Nat.le_trans hi h)]
/-! ### rules, the written part named -/
section
variable {X : Cx} {K : PySem.W.Frag} {tg : Expr}
theorem hu65_of {A : Around} {k : Nat} (hr : Room k A) : A.units + 65 < cLine := by have := hr.un; omega
theorem kIxL (h : X.K = K) : IxR X (rIxL K) := by subst h; exact ix_list
theorem kIxT (h : X.K = K) : IxR X (rIxT K) := by subst h; exact ix_tup
theorem kSlL (h : X.K = K) : SlR X (rSlL K) := by subst h; exact sl_list
theorem kSlT (h : X.K = K) : SlR X (rSlA K) := by subst h; exact sl_tupA
theorem kCatT (h : X.K = K) : OpR X (binaryOp .Add) (rCatA K) := by subst h; exact op_catA
theorem kEqD (h : X.K = K) (hu : X.A.units + 64 < cLine) : OpR X (compareOp .Eq) (rEqD K) := by subst h; exact op_eqD hu
theorem kNeD (h : X.K = K) (hu : X.A.units + 64 < cLine) : OpR X (compareOp .NotEq) (rNeD K) := by subst h; exact op_neD hu
theorem kVerEq (h : X.K = K) (hu : X.A.units + 65 < cLine) : OpR X (compareOp .Eq) (rVerEq K) := by subst h; exact op_verEq hu
theorem kVerNe (h : X.K = K) (hu : X.A.units + 65 < cLine) : OpR X (compareOp .NotEq) (rVerNe K) := by subst h; exact op_verNe hu
def rLen (K : PySem.W.Frag) : List V → Hp → VK → Prop := fun xs H Q => ∃ p ys, xs = [.ref p] ∧ (SqL K H p ys ∨ SqT K H p ys) ∧ Q (.int ys.length) H
def rToL (K : PySem.W.Frag) : List V → Hp → VK → Prop := fun xs H Q => ∃ p ys, xs = [.ref p] ∧ (SqL K H p ys ∨ SqT K H p ys) ∧ ∀ l, H l = none → Q (.ref l) (upd H l (.lst ys))
def rToT (K : PySem.W.Frag) : List V → Hp → VK → Prop := fun xs H Q => ∃ p ys, xs = [.ref p] ∧ ((SqL K H p ys ∧ ∀ l, H l = none → Q (.ref l) (upd H l (.tup ys))) ∨ (SqT K H p ys ∧ Q (.ref p) H))
theorem kLen (h : X.K = K) : CallR X (.builtin "len") (rLen K) := by subst h; exact call_len_seq
theorem kToL (h : X.K = K) : CallR X (.type "list") (rToL K) := by subst h; exact call_list_of
theorem kToT (h : X.K = K) : CallR X (.type "tuple") (rToT K) := by subst h; exact call_tuple_of
theorem kMax (h : X.K = K) (hc : X.calm = true) : CallR X (.builtin "max") (rMax K) := by subst h; exact cr_max hc
theorem kMin (h : X.K = K) (hc : X.calm = true) : CallR X (.builtin "min") (rMin K) := by subst h; exact cr_min hc
theorem kAll (h : X.K = K) (hc : X.calm = true) : CallR X (.builtin "all") (rAll K) := by subst h; exact cr_all hc
theorem kSrt (h : X.K = K) : CallR X (.builtin "sorted") (rSortedI K) := by subst h; exact cr_sortedI
theorem kExt (h : X.K = K) : MtM X "list.extend" (rExtS K) := by subst h; exact mt_extS
theorem kPiL (h : X.K = K) {l : Expr} {tl : TE} (hl : PE X l tl) : PI X tg l (iList K tl) := by subst h; exact pi_list hl
theorem kPiT (h : X.K = K) {l : Expr} {tl : TE} (hl : PE X l tl) : PI X tg l (iTup K tl) := by subst h; exact pi_tup hl
end
end Pv
end
section
set_option linter.all false
set_option maxRecDepth 100000
namespace Pv
open Kvg9
/-! ### what a store keeps -/
structure FOk (k : Nat) (f : Feature) : Prop where
  id : f.id ≤ 65535
  al : f.attributes.length = k
  ar : ∀ x ∈ f.attributes, -1000000000 ≤ x ∧ x ≤ 1000000000
  v1 : 1 ≤ f.vertices.length
  v2 : f.vertices.length ≤ 12
  vr : ∀ v ∈ f.vertices, (-1000000 ≤ v.1 ∧ v.1 ≤ 1000000) ∧ (-1000000 ≤ v.2 ∧ v.2 ≤ 1000000)
structure VOk (k : Nat) (v : Version) : Prop where
  srt : Srt v
  all : ∀ f ∈ v, FOk k f
  len : v.length ≤ 16
def NSrt (l : List (Nat × Nat)) : Prop := l.Pairwise fun a b => a.1 < b.1
structure NOk' (s : Store) (l : List (Nat × Nat)) : Prop where
  srt : NSrt l
  at_ : ∀ e ∈ l, (s.commit e.2).isSome = true ∧ e.1 < 4294967296
  len : l.length ≤ 8
structure COk (s : Store) (n : Nat) (c : Commit) : Prop where
  two : c.parents.length ≤ 2
  some_ : 0 < n → c.parents ≠ []
  low : ∀ p ∈ c.parents, p < n ∧ (s.commit p).isSome = true
  ver : VOk s.attributeCount c.version
structure Good (s : Store) : Prop where
  ac : s.attributeCount ≤ 8
  n1 : s.commits.length ≤ 40
  zero : (s.commit 0).isSome = true
  com : ∀ n c, s.commit n = some c → COk s n c
  wk : VOk s.attributeCount s.working
  br : NOk' s s.branches
  tg : NOk' s s.tags
  cur : (lookup s.branches s.current).isSome = true
theorem commit_lt {s : Store} {n : Nat} {c : Commit} (h : s.commit n = some c) : n < s.commits.length := by
  unfold Store.commit at h
  rw [List.getD_eq_getElem?_getD] at h
  cases e : s.commits[n]? with
  | none => rw [e] at h; cases h
  | some o => exact (List.getElem?_eq_some_iff.mp e).1
theorem ver_of {s : Store} {n : Nat} {c : Commit} (h : s.commit n = some c) : s.version n = c.version := by
  unfold Store.version; rw [h]; rfl
theorem par_of {s : Store} {n : Nat} {c : Commit} (h : s.commit n = some c) : s.parents n = c.parents := by
  unfold Store.parents; rw [h]; rfl
/-! ### names -/
theorem look_cons (e : Nat × Nat) (l : List (Nat × Nat)) (n : Nat) : lookup (e :: l) n = if e.1 = n then some e.2 else lookup l n := by
  unfold lookup
  rw [List.find?_cons]
  by_cases h : e.1 = n
  · simp [h]
  · have : (e.1 == n) = false := by simp [h]
    simp [this, h]
theorem look_mem : ∀ {l : List (Nat × Nat)} {n c : Nat}, lookup l n = some c → (n, c) ∈ l
  | [], _, _, h => by simp [lookup] at h
  | e :: l, n, c, h => by
    rw [look_cons] at h
    split at h
    · rename_i q
      cases h
      rw [← q]
      simp
    · exact List.mem_cons_of_mem _ (look_mem h)
theorem NSrt.tail {e : Nat × Nat} {l : List (Nat × Nat)} (s : NSrt (e :: l)) : NSrt l := (List.pairwise_cons.mp s).2
theorem NSrt.head {e : Nat × Nat} {l : List (Nat × Nat)} (s : NSrt (e :: l)) : ∀ x ∈ l, e.1 < x.1 := (List.pairwise_cons.mp s).1
theorem look_of_mem : ∀ {l : List (Nat × Nat)}, NSrt l → ∀ {e : Nat × Nat}, e ∈ l → lookup l e.1 = some e.2
  | [], _, _, h => by simp at h
  | a :: l, s, e, h => by
    rw [look_cons]
    rcases List.mem_cons.mp h with q | m
    · rw [q, if_pos rfl]
    · rw [if_neg (Nat.ne_of_lt (s.head e m))]
      exact look_of_mem s.tail m
theorem look_isSome {l : List (Nat × Nat)} {n : Nat} : (lookup l n).isSome = true ↔ ∃ c, (n, c) ∈ l := by
  constructor
  · intro h
    cases e : lookup l n with
    | none => rw [e] at h; cases h
    | some c => exact ⟨c, look_mem e⟩
  · rintro ⟨c, h⟩
    cases e : lookup l n with
    | some _ => rfl
    | none =>
      unfold lookup at e
      rw [Option.map_eq_none_iff, List.find?_eq_none] at e
      exact absurd (e _ h) (by simp)
theorem mem_assign {n c : Nat} {x : Nat × Nat} : ∀ {l : List (Nat × Nat)}, x ∈ assign n c l → x = (n, c) ∨ x ∈ l
  | [], h => by simp [assign] at h; exact .inl h
  | e :: l, h => by
    unfold assign at h
    split at h
    · simp at h; rcases h with h | h | h <;> simp [h]
    · split at h
      · simp at h; rcases h with h | h <;> simp [h]
      · simp at h
        rcases h with h | h
        · simp [h]
        · rcases mem_assign h with e | e <;> simp [e]
theorem srt_assign {n c : Nat} : ∀ {l : List (Nat × Nat)}, NSrt l → NSrt (assign n c l)
  | [], _ => by simp [assign, NSrt]
  | e :: l, s => by
    unfold assign
    split
    · rename_i h
      refine List.pairwise_cons.mpr ⟨fun x hx => ?_, s⟩
      rcases List.mem_cons.mp hx with q | m
      · rw [q]; exact h
      · exact Nat.lt_trans h (s.head x m)
    · split
      · rename_i h1 h
        exact List.pairwise_cons.mpr ⟨fun x hx => by show n < x.1; rw [h]; exact s.head x hx, s.tail⟩
      · rename_i h1 h2
        refine List.pairwise_cons.mpr ⟨fun x hx => ?_, srt_assign s.tail⟩
        rcases mem_assign hx with q | m
        · rw [q]; show e.1 < n; omega
        · exact s.head x m
theorem look_assign {n c m : Nat} : ∀ {l : List (Nat × Nat)}, lookup (assign n c l) m = if m = n then some c else lookup l m
  | [] => by
    unfold assign
    rw [look_cons]
    by_cases h : m = n <;> simp [h, lookup]
    intro z; exact absurd z.symm h
  | e :: l => by
    have ih := look_assign (n := n) (c := c) (m := m) (l := l)
    unfold assign
    split
    · rename_i h
      rw [look_cons]
      by_cases q : m = n
      · simp [q]
      · rw [if_neg (fun z => q z.symm), if_neg q]
    · split
      · rename_i h1 h
        rw [look_cons, look_cons]
        by_cases q : m = n
        · simp [q]
        · rw [if_neg (fun z => q z.symm), if_neg q, if_neg (by rw [← h]; exact fun z => q z.symm)]
      · rename_i h1 h2
        rw [look_cons, look_cons, ih]
        by_cases q : e.1 = m
        · rw [if_pos q, if_pos q, if_neg (by omega)]
        · rw [if_neg q, if_neg q]
theorem len_assign {n c : Nat} : ∀ {l : List (Nat × Nat)}, NSrt l → (assign n c l).length = if (lookup l n).isSome then l.length else l.length + 1
  | [], _ => by simp [assign, lookup]
  | e :: l, s => by
    unfold assign
    rw [look_cons]
    split
    · rename_i h
      rw [if_neg (show ¬ e.1 = n by omega)]
      have : lookup l n = none := by
        cases q : lookup l n with
        | none => rfl
        | some c =>
          have h3 := s.head _ (look_mem q)
          have h4 : e.1 < n := h3
          omega
      simp [this]
    · split
      · rename_i h1 h
        rw [if_pos h.symm]; simp
      · rename_i h1 h2
        rw [List.length_cons, len_assign s.tail, if_neg (show ¬ e.1 = n from fun z => h2 z.symm)]
        split <;> simp
theorem srt_drop {n : Nat} {l : List (Nat × Nat)} (s : NSrt l) : NSrt (l.filter fun e => e.1 != n) := List.Pairwise.filter _ s
theorem look_drop {n m : Nat} : ∀ {l : List (Nat × Nat)}, lookup (l.filter fun e => e.1 != n) m = if m = n then none else lookup l m
  | [] => by simp [lookup]
  | e :: l => by
    have ih := look_drop (n := n) (m := m) (l := l)
    rw [List.filter_cons]
    by_cases h : e.1 = n
    · have q : (e.1 != n) = false := by simp [h]
      rw [q, if_neg (by simp), ih, look_cons]
      by_cases z : m = n
      · simp [z]
      · rw [if_neg z, if_neg z, if_neg (by omega)]
    · have q : (e.1 != n) = true := by simp [h]
      rw [q, if_pos rfl, look_cons, look_cons, ih]
      by_cases z : e.1 = m
      · rw [if_pos z, if_pos z, if_neg (by omega)]
      · rw [if_neg z, if_neg z]
theorem len_drop {n : Nat} : ∀ {l : List (Nat × Nat)}, NSrt l → (lookup l n).isSome → (l.filter fun e => e.1 != n).length = l.length - 1
  | [], _, h => by simp [lookup] at h
  | e :: l, s, h => by
    rw [look_cons] at h
    rw [List.filter_cons]
    by_cases q : e.1 = n
    · have z : (e.1 != n) = false := by simp [q]
      rw [z, if_neg (by simp)]
      have : l.filter (fun x => x.1 != n) = l := List.filter_eq_self.mpr fun x hx => by
        have := s.head x hx
        simp; omega
      rw [this]; simp
    · have z : (e.1 != n) = true := by simp [q]
      rw [if_neg q] at h
      rw [z, if_pos rfl, List.length_cons, len_drop s.tail h, List.length_cons]
      have : l ≠ [] := by intro z; rw [z] at h; simp [lookup] at h
      have : 0 < l.length := List.length_pos_iff.mpr this
      omega
theorem Good.head {s : Store} (g : Good s) : ∃ c, lookup s.branches s.current = some s.head ∧ s.commit s.head = some c := by
  cases e : lookup s.branches s.current with
  | none => have := g.cur; rw [e] at this; cases this
  | some n =>
    have h : s.head = n := by unfold Store.head; rw [e]; rfl
    have := (g.br.at_ _ (look_mem e)).1
    rw [h]
    cases q : s.commit n with
    | none => rw [show (s.current, n).2 = n from rfl, q] at this; cases this
    | some c => exact ⟨c, rfl, rfl⟩
end Pv
end
section
set_option linter.all false
set_option maxRecDepth 100000
namespace Pv
open Kvg9
/-! ### hashes of commits -/
def cHash (hs : List Nat) (v : Version) : Nat := fnv (hs.flatMap bytes8 ++ bytes8 (hashVersion v))
def hStep (s : Store) (l : List Nat) (c : Nat) : List Nat := l ++ [cHash ((s.parents c).map fun p => l.getD p 0) (s.version c)]
def hUp (s : Store) (n : Nat) : List Nat := (List.range n).foldl (hStep s) []
theorem hashes_eq (s : Store) : s.hashes = hUp s s.commits.length := by
  unfold Store.hashes hUp
  congr 1
  funext l c
  unfold hStep cHash
  rw [List.flatMap_map]
theorem hUp_succ (s : Store) (n : Nat) : hUp s (n + 1) = hStep s (hUp s n) n := by
  unfold hUp
  rw [List.range_succ, List.foldl_append, List.foldl_cons, List.foldl_nil]
theorem hUp_len (s : Store) : ∀ n, (hUp s n).length = n
  | 0 => rfl
  | n + 1 => by
    rw [hUp_succ]
    unfold hStep
    rw [List.length_append, hUp_len s n]; rfl
theorem hUp_more (s : Store) {p n : Nat} (h : p < n) : ∀ k, (hUp s (n + k)).getD p 0 = (hUp s n).getD p 0
  | 0 => rfl
  | k + 1 => by
    rw [← hUp_more s h k, show n + (k + 1) = (n + k) + 1 from rfl, hUp_succ]
    unfold hStep
    rw [List.getD_eq_getElem?_getD, List.getElem?_append_left (by rw [hUp_len]; omega), List.getD_eq_getElem?_getD]
theorem hash_at (s : Store) {n : Nat} (h : n < s.commits.length) (low : ∀ p ∈ s.parents n, p < n) : s.hashes.getD n 0 = cHash ((s.parents n).map fun p => s.hashes.getD p 0) (s.version n) := by
  have e : s.hashes = hUp s ((n + 1) + (s.commits.length - (n + 1))) := by rw [hashes_eq]; congr 1; omega
  have e2 : (hUp s (n + 1)).getD n 0 = cHash ((s.parents n).map fun p => (hUp s n).getD p 0) (s.version n) := by
    rw [hUp_succ]
    unfold hStep
    rw [List.getD_eq_getElem?_getD, List.getElem?_append_right (by rw [hUp_len]; exact Nat.le_refl _), hUp_len, Nat.sub_self]
    rfl
  rw [e, hUp_more s (Nat.lt_succ_self n), e2]
  congr 1
  refine List.map_congr_left fun p hp => ?_
  have hpn := low p hp
  rw [show n + 1 + (s.commits.length - (n + 1)) = n + (s.commits.length - n) by omega, hUp_more s hpn]
theorem hash_rec {s : Store} {n : Nat} {c : Commit} (h : s.commit n = some c) (low : ∀ p ∈ c.parents, p < n) : s.hashes.getD n 0 = cHash (c.parents.map fun p => s.hashes.getD p 0) c.version := by
  have := hash_at s (commit_lt h) (by rw [par_of h]; exact low)
  rw [this, par_of h, ver_of h]
/-- a part of the commits, closed under parents, keeps its hashes -/
theorem hash_same {s t : Store} (low : ∀ n c, t.commit n = some c → ∀ p ∈ c.parents, p < n ∧ (t.commit p).isSome = true) (sub : ∀ n c, t.commit n = some c → s.commit n = some c) : ∀ n c, t.commit n = some c → t.hashes.getD n 0 = s.hashes.getD n 0 := by
  intro n
  induction n using Nat.strongRecOn with
  | ind n ih =>
    intro c h
    rw [hash_rec h fun p hp => (low n c h p hp).1, hash_rec (sub n c h) fun p hp => (low n c h p hp).1]
    congr 1
    refine List.map_congr_left fun p hp => ?_
    obtain ⟨h1, h2⟩ := low n c h p hp
    obtain ⟨d, hd⟩ := Option.isSome_iff_exists.mp h2
    exact ih p h1 d hd
/-! ### a commit more -/
theorem commit_snoc (s : Store) (o : Option Commit) (n : Nat) {t : Store} (e : t.commits = s.commits ++ [o]) : t.commit n = if n = s.commits.length then o else s.commit n := by
  unfold Store.commit
  rw [e, List.getD_eq_getElem?_getD, List.getD_eq_getElem?_getD]
  rcases Nat.lt_trichotomy n s.commits.length with h | h | h
  · rw [List.getElem?_append_left h, if_neg (by omega)]
  · rw [List.getElem?_append_right (by omega), if_pos h, h, Nat.sub_self]; rfl
  · rw [List.getElem?_append_right (by omega), if_neg (by omega), List.getElem?_eq_none (by simp; omega), List.getElem?_eq_none (by omega)]
end Pv
end
section
set_option linter.all false
set_option maxRecDepth 100000
namespace Pv
open Kvg9
/-! ### differences -/
def chIds (v w : Version) : List Nat := (idsOf [v, w]).filter fun n => !decide (find v n = find w n)
def partsUp (f g : Feature) (i : Nat) : Nat := ((List.range i).map fun j => if f.attributes[j]? = g.attributes[j]? then 0 else 2 ^ j).foldl (· + ·) 0
theorem partsUp_succ (f g : Feature) (i : Nat) : partsUp f g (i + 1) = partsUp f g i + if f.attributes[i]? = g.attributes[i]? then 0 else 2 ^ i := by
  unfold partsUp
  rw [List.range_succ, List.map_append, List.foldl_append]
  rfl
theorem changedParts_eq {f g : Feature} (h : f.attributes.length = g.attributes.length) : changedParts f g = partsUp f g f.attributes.length + if f.vertices = g.vertices then 0 else 1024 := by
  unfold changedParts partsUp
  rw [← h, Nat.max_self]
def chRow (n : Nat) : Option Feature → Option Feature → List Int
  | none, _ => [n, 1, 0]
  | some _, none => [n, 2, 0]
  | some f, some g => [n, 3, (changedParts f g : Nat)]
theorem find_id {v : Version} {n : Nat} {f : Feature} (h : find v n = some f) : f.id = n := (find_mem h).2
theorem changes_rows (v w : Version) : (changesBetween v w).map (fun c => Kvg9.ints [c.id, c.kind, c.parts]) = (chIds v w).map fun n => chRow n (find v n) (find w n) := by
  unfold changesBetween chIds
  induction idsOf [v, w] with
  | nil => rfl
  | cons n l ih =>
    rw [List.filterMap_cons, List.filter_cons]
    cases hv : find v n with
    | none =>
      cases hw : find w n with
      | none => simpa using ih
      | some g => simpa [chRow, hv, hw, Kvg9.ints] using ih
    | some f =>
      cases hw : find w n with
      | none => simpa [chRow, hv, hw, Kvg9.ints] using ih
      | some g =>
        by_cases e : f = g
        · simpa [e] using ih
        · simpa [e, chRow, hv, hw, Kvg9.ints] using ih
theorem changes_len (v w : Version) : (changesBetween v w).length = (chIds v w).length := by
  have := congrArg List.length (changes_rows v w)
  simpa using this
theorem ids2_len {v w : Version} (h1 : v.length ≤ 16) (h2 : w.length ≤ 16) : (idsOf [v, w]).length ≤ 32 := by
  have := idsOf_len (vs := [v, w])
  simp at this
  omega
theorem changes_row (l : List Change) : Kvg9Neutral.resultRow (changesResult l) = (l.length : Int) :: (l.map fun c => Kvg9.ints [c.id, c.kind, c.parts]).flatten := by
  unfold Kvg9Neutral.resultRow changesResult
  rw [List.flatMap_def]
end Pv
end
section
set_option linter.all false
set_option maxRecDepth 100000
namespace Pv
open Kvg9
/-! ### ancestors -/
inductive Reach (s : Store) (c : Nat) : Nat → Prop
  | refl : Reach s c c
  | step {y x : Nat} : Reach s c y → x ∈ s.parents y → Reach s c x
def aStep (s : Store) (found : List Nat) (i : Nat) : List Nat := if found.contains i then found ++ (s.parents i).filter (fun p => !(found.contains p)) else found
theorem aStep_sub {s : Store} {found : List Nat} {i x : Nat} (h : x ∈ found) : x ∈ aStep s found i := by
  unfold aStep
  split
  · exact List.mem_append_left _ h
  · exact h
theorem aStep_new {s : Store} {found : List Nat} {i x : Nat} (h : x ∈ aStep s found i) : x ∈ found ∨ (i ∈ found ∧ x ∈ s.parents i) := by
  unfold aStep at h
  split at h
  · rename_i hi
    rcases List.mem_append.mp h with h | h
    · exact .inl h
    · exact .inr ⟨List.contains_iff_mem.mp hi, (List.mem_filter.mp h).1⟩
  · exact .inl h
theorem aStep_par {s : Store} {found : List Nat} {i x : Nat} (hi : i ∈ found) (hx : x ∈ s.parents i) : x ∈ aStep s found i := by
  unfold aStep
  rw [if_pos (List.contains_iff_mem.mpr hi)]
  by_cases h : x ∈ found
  · exact List.mem_append_left _ h
  · exact List.mem_append_right _ (List.mem_filter.mpr ⟨hx, by simp [h]⟩)
theorem aFold {s : Store} (low : ∀ n, ∀ p ∈ s.parents n, p < n) {c : Nat} : ∀ (n : Nat) (found : List Nat), c ∈ found → (∀ x ∈ found, Reach s c x) → (∀ y ∈ found, n ≤ y → ∀ p ∈ s.parents y, p ∈ found) →
    ∀ x, x ∈ (List.range n).reverse.foldl (aStep s) found ↔ Reach s c x
  | 0, found, h1, h2, h3, x => by
    constructor
    · exact h2 x
    · intro r
      induction r with
      | refl => exact h1
      | step _ hp ih => exact h3 _ ih (Nat.zero_le _) _ hp
  | n + 1, found, h1, h2, h3, x => by
    rw [List.range_succ, List.reverse_append, List.reverse_singleton, List.singleton_append, List.foldl_cons]
    refine aFold low n _ (aStep_sub h1) (fun y hy => ?_) (fun y hy hn p hp => ?_) x
    · rcases aStep_new hy with h | ⟨hi, hp⟩
      · exact h2 y h
      · exact (h2 n hi).step hp
    · rcases aStep_new hy with h | ⟨hi, hq⟩
      · by_cases e : y = n
        · subst e
          exact aStep_par h hp
        · exact aStep_sub (h3 y h (by omega) p hp)
      · have := low n y hq
        omega
theorem mem_anc {s : Store} (low : ∀ n, ∀ p ∈ s.parents n, p < n) (c x : Nat) : x ∈ s.ancestors c ↔ Reach s c x := by
  have e : s.ancestors c = (List.range (c + 1)).reverse.foldl (aStep s) [c] := rfl
  rw [e, List.range_succ, List.reverse_append, List.reverse_singleton, List.singleton_append, List.foldl_cons]
  refine aFold low c _ (aStep_sub (by simp)) (fun y hy => ?_) (fun y hy hn p hp => ?_) x
  · rcases aStep_new hy with h | ⟨hi, hp⟩
    · have : y = c := by simpa using h
      rw [this]; exact .refl
    · exact Reach.refl.step hp
  · rcases aStep_new hy with h | ⟨hi, hq⟩
    · have : y = c := by simpa using h
      subst this
      exact aStep_par (by simp) hp
    · have := low c y hq
      omega
theorem Good.lowP {s : Store} (G : Good s) : ∀ n, ∀ p ∈ s.parents n, p < n := fun n p hp => by
  cases h : s.commit n with
  | none => unfold Store.parents at hp; rw [h] at hp; cases hp
  | some c =>
    rw [par_of h] at hp
    exact ((G.com n c h).low p hp).1
theorem Reach.le {s : Store} (low : ∀ n, ∀ p ∈ s.parents n, p < n) {c x : Nat} (r : Reach s c x) : x ≤ c := by
  induction r with
  | refl => exact Nat.le_refl _
  | step _ hp ih => exact Nat.le_trans (Nat.le_of_lt (low _ _ hp)) ih
theorem Reach.live {s : Store} (G : Good s) {c x : Nat} (hc : (s.commit c).isSome = true) (r : Reach s c x) : (s.commit x).isSome = true := by
  induction r with
  | refl => exact hc
  | step _ hp ih =>
    obtain ⟨d, hd⟩ := Option.isSome_iff_exists.mp ih
    rw [par_of hd] at hp
    exact ((G.com _ d hd).low _ hp).2
theorem Reach.zero {s : Store} (G : Good s) : ∀ {c : Nat}, (s.commit c).isSome = true → Reach s c 0 := by
  intro c
  induction c using Nat.strongRecOn with
  | ind c ih =>
    intro hc
    by_cases h0 : c = 0
    · subst h0; exact .refl
    · obtain ⟨d, hd⟩ := Option.isSome_iff_exists.mp hc
      have ok := G.com c d hd
      cases hp : d.parents with
      | nil => exact absurd hp (ok.some_ (by omega))
      | cons p ps =>
        have hm : p ∈ d.parents := by rw [hp]; simp
        obtain ⟨l1, l2⟩ := ok.low p hm
        have r := ih p l1 l2
        have trans : ∀ {x}, Reach s p x → Reach s c x := by
          intro x r
          induction r with
          | refl => exact Reach.refl.step (by rw [par_of hd]; exact hm)
          | step _ q ih => exact ih.step q
        exact trans r
/-- the list in descending order -/
def ancL (s : Store) (c : Nat) : List Nat := (List.range (c + 1)).reverse.filter fun i => (s.ancestors c).contains i
theorem mem_ancL {s : Store} (G : Good s) (c x : Nat) : x ∈ ancL s c ↔ Reach s c x := by
  unfold ancL
  rw [List.mem_filter, List.mem_reverse, List.mem_range, List.contains_iff_mem, mem_anc G.lowP]
  constructor
  · exact fun h => h.2
  · exact fun h => ⟨by have := h.le G.lowP; omega, h⟩
theorem ancL_desc (s : Store) (c : Nat) : (ancL s c).Pairwise (· > ·) := by
  refine List.Pairwise.filter _ ?_
  rw [List.pairwise_reverse]
  exact List.pairwise_lt_range
theorem ancL_len (s : Store) (c : Nat) : (ancL s c).length ≤ c + 1 := by
  have := List.length_filter_le (fun i => (s.ancestors c).contains i) (List.range (c + 1)).reverse
  rw [List.length_reverse, List.length_range] at this
  exact this
/-- descending lists are told by their members -/
theorem desc_ext {l m : List Int} (h1 : l.Pairwise (· > ·)) (h2 : m.Pairwise (· > ·)) (h : ∀ x, x ∈ l ↔ x ∈ m) : l = m := by
  have e : l.reverse = m.reverse := strict_extI (by rw [List.pairwise_reverse]; exact h1) (by rw [List.pairwise_reverse]; exact h2) fun x => by rw [List.mem_reverse, List.mem_reverse]; exact h x
  have := congrArg List.reverse e
  rwa [List.reverse_reverse, List.reverse_reverse] at this
/-- the walk over what waits, at some turn -/
structure Dfs (s : Store) (c : Nat) (F W : List Nat) : Prop where
  nd : F.Nodup
  top : c ∈ F
  rea : ∀ x ∈ F, Reach s c x
  sub : ∀ x ∈ W, x ∈ F
  cl : ∀ y ∈ F, y ∈ W ∨ ∀ p ∈ s.parents y, p ∈ F
theorem Dfs.start (s : Store) (c : Nat) : Dfs s c [c] [c] := ⟨by simp, by simp, fun x hx => by
  have : x = c := by simpa using hx
  rw [this]; exact .refl, fun _ h => h, fun y h => .inl h⟩
theorem Dfs.done {s : Store} {c : Nat} {F : List Nat} (d : Dfs s c F []) (x : Nat) : x ∈ F ↔ Reach s c x := by
  constructor
  · exact d.rea x
  · intro r
    induction r with
    | refl => exact d.top
    | step _ hp ih =>
      rcases d.cl _ ih with h | h
      · cases h
      · exact h _ hp
/-- within a turn: y was taken, the parents seen so far are ps -/
structure Dfs1 (s : Store) (c y : Nat) (ps F W : List Nat) : Prop where
  nd : F.Nodup
  top : c ∈ F
  rea : ∀ x ∈ F, Reach s c x
  sub : ∀ x ∈ W, x ∈ F
  me : y ∈ F
  seen : ∀ p ∈ ps, p ∈ F
  cl : ∀ z ∈ F, z = y ∨ z ∈ W ∨ ∀ p ∈ s.parents z, p ∈ F
theorem Dfs.take {s : Store} {c y : Nat} {F W : List Nat} (d : Dfs s c F (W ++ [y])) : Dfs1 s c y [] F W := by
  refine ⟨d.nd, d.top, d.rea, fun x hx => d.sub x (List.mem_append_left _ hx), d.sub y (by simp), (fun _ h => by cases h), fun z hz => ?_⟩
  rcases d.cl z hz with h | h
  · rcases List.mem_append.mp h with h | h
    · exact .inr (.inl h)
    · exact .inl (by simpa using h)
  · exact .inr (.inr h)
theorem Dfs1.old {s : Store} {c y p : Nat} {ps F W : List Nat} (d : Dfs1 s c y ps F W) (h : p ∈ F) : Dfs1 s c y (ps ++ [p]) F W := ⟨d.nd, d.top, d.rea, d.sub, d.me, fun q hq => by
  rcases List.mem_append.mp hq with h1 | h1
  · exact d.seen q h1
  · have : q = p := by simpa using h1
    rw [this]; exact h, d.cl⟩
theorem Dfs1.new {s : Store} {c y p : Nat} {ps F W : List Nat} (d : Dfs1 s c y ps F W) (hp : p ∈ s.parents y) (h : p ∉ F) : Dfs1 s c y (ps ++ [p]) (F ++ [p]) (W ++ [p]) := by
  refine ⟨?_, List.mem_append_left _ d.top, fun x hx => ?_, fun x hx => ?_, List.mem_append_left _ d.me, fun q hq => ?_, fun z hz => ?_⟩
  · rw [List.nodup_append]
    exact ⟨d.nd, by simp, fun a ha b hb => by
      have : b = p := by simpa using hb
      rw [this]; exact fun e => h (e ▸ ha)⟩
  · rcases List.mem_append.mp hx with h1 | h1
    · exact d.rea x h1
    · have : x = p := by simpa using h1
      rw [this]; exact (d.rea y d.me).step hp
  · rcases List.mem_append.mp hx with h1 | h1
    · exact List.mem_append_left _ (d.sub x h1)
    · exact List.mem_append_right _ h1
  · rcases List.mem_append.mp hq with h1 | h1
    · exact List.mem_append_left _ (d.seen q h1)
    · exact List.mem_append_right _ h1
  · rcases List.mem_append.mp hz with h1 | h1
    · rcases d.cl z h1 with h | h | h
      · exact .inl h
      · exact .inr (.inl (List.mem_append_left _ h))
      · exact .inr (.inr fun q hq => List.mem_append_left _ (h q hq))
    · exact .inr (.inl (List.mem_append_right _ h1))
theorem Dfs1.done {s : Store} {c y : Nat} {F W : List Nat} (d : Dfs1 s c y (s.parents y) F W) : Dfs s c F W := ⟨d.nd, d.top, d.rea, d.sub, fun z hz => by
  rcases d.cl z hz with h | h | h
  · rw [h]; exact .inr d.seen
  · exact .inl h
  · exact .inr h⟩
/-- found is at most all numbers up to c -/
theorem found_len {s : Store} (low : ∀ n, ∀ p ∈ s.parents n, p < n) {c : Nat} {F : List Nat} (nd : F.Nodup) (rea : ∀ x ∈ F, Reach s c x) : F.length ≤ c + 1 := by
  have h : F.length ≤ (List.range (c + 1)).length := nd.length_le_of_subset fun x hx => by
    rw [List.mem_range]
    have := (rea x hx).le low
    omega
  rw [List.length_range] at h
  exact h
end Pv
end
section
set_option linter.all false
set_option maxRecDepth 100000
namespace Pv
open Kvg9
/-! ### the common ancestor, garbage -/
theorem foldl_max_le : ∀ (l : List Nat) (m : Nat), m ≤ l.foldl max m ∧ (∀ x ∈ l, x ≤ l.foldl max m) ∧ (l.foldl max m = m ∨ l.foldl max m ∈ l)
  | [], m => ⟨Nat.le_refl _, (fun _ h => by cases h), .inl rfl⟩
  | a :: l, m => by
    obtain ⟨h1, h2, h3⟩ := foldl_max_le l (max m a)
    rw [List.foldl_cons]
    refine ⟨Nat.le_trans (Nat.le_max_left m a) h1, fun x hx => ?_, ?_⟩
    · rcases List.mem_cons.mp hx with e | hx
      · rw [e]; exact Nat.le_trans (Nat.le_max_right m a) h1
      · exact h2 x hx
    · rcases h3 with h3 | h3
      · rw [h3]
        rcases Nat.le_total m a with q | q
        · rw [Nat.max_eq_right q]; exact .inr (by simp)
        · rw [Nat.max_eq_left q]; exact .inl rfl
      · exact .inr (List.mem_cons_of_mem _ h3)
theorem common_is {s : Store} (G : Good s) {a b m : Nat} (ha : (s.commit a).isSome = true) (hb : (s.commit b).isSome = true) (h1 : Reach s a m) (h2 : Reach s b m) (h : ∀ x, Reach s a x → Reach s b x → x ≤ m) : m = s.commonAncestor a b := by
  have e : s.commonAncestor a b = (((s.ancestors a).filter fun c => (s.ancestors b).contains c).foldl max 0) := rfl
  obtain ⟨k1, k2, k3⟩ := foldl_max_le ((s.ancestors a).filter fun c => (s.ancestors b).contains c) 0
  rw [← e] at k1 k2 k3
  have mem : ∀ x, x ∈ (s.ancestors a).filter (fun c => (s.ancestors b).contains c) ↔ Reach s a x ∧ Reach s b x := fun x => by
    rw [List.mem_filter, List.contains_iff_mem, mem_anc G.lowP, mem_anc G.lowP]
  refine Nat.le_antisymm (k2 m ((mem m).mpr ⟨h1, h2⟩)) ?_
  rcases k3 with k3 | k3
  · rw [k3]; exact Nat.zero_le _
  · obtain ⟨q1, q2⟩ := (mem _).mp k3
    exact h _ q1 q2
def keptB (s : Store) (i : Nat) : Bool := ((s.branches.map Prod.snd ++ s.tags.map Prod.snd).flatMap s.ancestors).contains i
def swept (s : Store) : Store := { s with commits := s.commits.zipIdx.map fun (c, i) => if keptB s i then c else none }
theorem swept_len (s : Store) : (swept s).commits.length = s.commits.length := by
  unfold swept
  rw [List.length_map, List.length_zipIdx]
theorem swept_commit (s : Store) (n : Nat) : (swept s).commit n = if keptB s n then s.commit n else none := by
  unfold Store.commit swept
  rw [List.getD_eq_getElem?_getD, List.getD_eq_getElem?_getD, List.getElem?_map, List.getElem?_zipIdx]
  cases h : s.commits[n]? with
  | none => simp
  | some c =>
    simp only [Option.map_some, Option.getD_some, Nat.zero_add]
theorem keptB_iff {s : Store} (G : Good s) (i : Nat) : keptB s i = true ↔ ∃ e, (e ∈ s.branches ∨ e ∈ s.tags) ∧ Reach s e.2 i := by
  unfold keptB
  rw [List.contains_iff_mem, List.mem_flatMap]
  constructor
  · rintro ⟨c, hc, hi⟩
    rcases List.mem_append.mp hc with h | h
    · obtain ⟨e, he, rfl⟩ := List.mem_map.mp h
      exact ⟨e, .inl he, (mem_anc G.lowP _ _).mp hi⟩
    · obtain ⟨e, he, rfl⟩ := List.mem_map.mp h
      exact ⟨e, .inr he, (mem_anc G.lowP _ _).mp hi⟩
  · rintro ⟨e, he, r⟩
    refine ⟨e.2, ?_, (mem_anc G.lowP _ _).mpr r⟩
    rcases he with h | h
    · exact List.mem_append_left _ (List.mem_map_of_mem h)
    · exact List.mem_append_right _ (List.mem_map_of_mem h)
theorem swept_sub {s : Store} {n : Nat} {c : Commit} (h : (swept s).commit n = some c) : s.commit n = some c ∧ keptB s n = true := by
  rw [swept_commit] at h
  split at h
  · rename_i q; exact ⟨h, q⟩
  · cases h
theorem swept_low {s : Store} (G : Good s) {n : Nat} {c : Commit} (h : (swept s).commit n = some c) : ∀ p ∈ c.parents, p < n ∧ ((swept s).commit p).isSome = true := fun p hp => by
  obtain ⟨h1, h2⟩ := swept_sub h
  obtain ⟨l1, l2⟩ := (G.com n c h1).low p hp
  refine ⟨l1, ?_⟩
  rw [swept_commit]
  obtain ⟨e, he, r⟩ := (keptB_iff G n).mp h2
  rw [if_pos ((keptB_iff G p).mpr ⟨e, he, r.step (by rw [par_of h1]; exact hp)⟩)]
  exact l2
theorem swept_hash {s : Store} (G : Good s) {n : Nat} {c : Commit} (h : (swept s).commit n = some c) : (swept s).hashes.getD n 0 = s.hashes.getD n 0 :=
  hash_same (fun n c h => swept_low G h) (fun n c h => (swept_sub h).1) n c h
def liveOf (l : List (Option Commit)) : List Nat := (List.range l.length).filter fun n => (l.getD n none).isSome
theorem liveOf_len : ∀ l : List (Option Commit), (l.filter Option.isSome).length = (liveOf l).length
  | [] => rfl
  | o :: l => by
    have e : liveOf (o :: l) = (if o.isSome then [0] else []) ++ (liveOf l).map Nat.succ := by
      unfold liveOf
      rw [List.length_cons, List.range_succ_eq_map, List.filter_cons, List.filter_map]
      cases o with
      | none => rfl
      | some c => rfl
    rw [e, List.length_append, List.length_map, ← liveOf_len l, List.filter_cons]
    cases o with
    | none => simp
    | some c => simp; omega
theorem garbage_run (s : Store) : s.run .collectGarbage = (swept s, .number ((s.commits.filter Option.isSome).length - ((swept s).commits.filter Option.isSome).length)) := rfl
end Pv
end
section
set_option linter.all false
set_option maxRecDepth 100000
namespace Pv
open Kvg9
/-! ### merges -/
section
variable {α : Type} [DecidableEq α]
/-- what is taken: the value that was changed; the side's where both were -/
def mVal (side : Bool) (b o t : α) : α := (mergeValue b o t).getD (if side then t else o)
theorem mVal_mem (side : Bool) (b o t : α) : mVal side b o t = o ∨ mVal side b o t = t := by
  unfold mVal mergeValue
  split
  · exact .inl rfl
  · split
    · exact .inr rfl
    · split
      · exact .inl rfl
      · cases side
        · exact .inl rfl
        · exact .inr rfl
theorem mv_1 {b o t : α} (h : o = t ∨ b = t) : mergeValue b o t = some o := by
  unfold mergeValue
  by_cases h1 : o = t
  · rw [if_pos h1]
  · rw [if_neg h1]
    have hb : b = t := h.resolve_left h1
    rw [if_neg (fun z => h1 (by rw [← z, hb])), if_pos hb]
theorem mv_2 {b o t : α} (h1 : ¬ o = t) (h : b = o) : mergeValue b o t = some t := by
  unfold mergeValue
  rw [if_neg h1, if_pos h]
theorem mv_3 {b o t : α} (h1 : ¬ o = t) (h2 : ¬ b = t) (h3 : ¬ b = o) : mergeValue b o t = none := by
  unfold mergeValue
  rw [if_neg h1, if_neg h3, if_neg h2]
/-- element by element, up to some turn -/
def mAt (bs os ts : List α) (z : α) (i : Nat) : Option α := mergeValue (bs.getD i z) (os.getD i z) (ts.getD i z)
def mUp (side : Bool) (bs os ts : List α) (z : α) (i : Nat) : List α := (List.range i).map fun j => mVal side (bs.getD j z) (os.getD j z) (ts.getD j z)
def cUp (bs os ts : List α) (z : α) (i : Nat) : List Nat := (List.range i).filter fun j => (mAt bs os ts z j).isNone
theorem mergeLists_eq (side : Bool) (bs os ts : List α) (z : α) : mergeLists side bs os ts z = (mUp side bs os ts z bs.length, cUp bs os ts z bs.length) := by
  unfold mergeLists mUp cUp mAt mVal
  simp only [List.map_map, List.filter_map]
  congr 1
  · refine (List.map_congr_left fun i _ => ?_).trans (List.map_id _)
    rfl
theorem mUp_succ (side : Bool) (bs os ts : List α) (z : α) (i : Nat) : mUp side bs os ts z (i + 1) = mUp side bs os ts z i ++ [mVal side (bs.getD i z) (os.getD i z) (ts.getD i z)] := by
  unfold mUp
  rw [List.range_succ, List.map_append]; rfl
theorem cUp_succ (bs os ts : List α) (z : α) (i : Nat) : cUp bs os ts z (i + 1) = cUp bs os ts z i ++ if (mAt bs os ts z i).isNone then [i] else [] := by
  unfold cUp
  rw [List.range_succ, List.filter_append, List.filter_cons]
  rfl
theorem cUp_len (bs os ts : List α) (z : α) (i : Nat) : (cUp bs os ts z i).length ≤ i := by
  have := List.length_filter_le (fun j => (mAt bs os ts z j).isNone) (List.range i)
  rw [List.length_range] at this
  exact this
theorem mUp_len (side : Bool) (bs os ts : List α) (z : α) (i : Nat) : (mUp side bs os ts z i).length = i := by simp [mUp]
theorem mUp_mem {side : Bool} {bs os ts : List α} {z : α} {i : Nat} (h1 : i ≤ os.length) (h2 : i ≤ ts.length) : ∀ x ∈ mUp side bs os ts z i, x ∈ os ∨ x ∈ ts := fun x hx => by
  obtain ⟨j, hj, rfl⟩ := List.mem_map.mp hx
  have hj := List.mem_range.mp hj
  rcases mVal_mem side (bs.getD j z) (os.getD j z) (ts.getD j z) with e | e
  · rw [e, List.getD_eq_getElem?_getD, List.getElem?_eq_getElem (by omega)]
    exact .inl (List.getElem_mem _)
  · rw [e, List.getD_eq_getElem?_getD, List.getElem?_eq_getElem (by omega)]
    exact .inr (List.getElem_mem _)
end
/-- the vertices of a feature -/
def mVerts (side : Bool) (b o t : List (Int × Int)) : List (Int × Int) × List (Nat × Nat) := match mergeValue b o t with
  | some v => (v, [])
  | none => if b.length = o.length ∧ b.length = t.length then ((mergeLists side b o t (0, 0)).1, (mergeLists side b o t (0, 0)).2.map fun i => (4, i)) else (if side then t else o, [(5, 0)])
/-- a feature, or none: what it becomes, and the conflicts by kind and index -/
def mFeat (side : Bool) (b o t : Option Feature) : Option Feature × List (Nat × Nat) := match mergeValue b o t with
  | some f => (f, [])
  | none => match b, o, t with
    | some b, some o, some t => (some ⟨b.id, (mergeLists side b.attributes o.attributes t.attributes 0).1, (mVerts side b.vertices o.vertices t.vertices).1⟩, ((mergeLists side b.attributes o.attributes t.attributes 0).2.map fun i => (3, i)) ++ (mVerts side b.vertices o.vertices t.vertices).2)
    | none, o, t => (if side then t else o, [(2, 0)])
    | some _, o, t => (if side then t else o, [(1, 0)])
def cRow (n : Nat) (c : Nat × Nat) : List Int := [n, c.1, c.2]
theorem mergeFeature_eq (side : Bool) (b o t : Feature) : mergeFeature side b o t = (⟨b.id, (mergeLists side b.attributes o.attributes t.attributes 0).1, (mVerts side b.vertices o.vertices t.vertices).1⟩,
    (((mergeLists side b.attributes o.attributes t.attributes 0).2.map fun i => (3, i)) ++ (mVerts side b.vertices o.vertices t.vertices).2).map fun c : Nat × Nat => ⟨b.id, c.1, c.2⟩) := by
  unfold mergeFeature mVerts
  cases h : mergeValue b.vertices o.vertices t.vertices with
  | some v => simp [List.map_map, Function.comp_def]
  | none =>
    simp only []
    split
    · simp [List.map_map, Function.comp_def]
    · simp [List.map_map, Function.comp_def]
theorem mergeId_eq (side : Bool) (b o t : Version) (n : Nat) : mergeId side b o t n = ((mFeat side (find b n) (find o n) (find t n)).1, (mFeat side (find b n) (find o n) (find t n)).2.map fun c : Nat × Nat => ⟨n, c.1, c.2⟩) := by
  unfold mergeId mFeat
  cases h : mergeValue (find b n) (find o n) (find t n) with
  | some f => rfl
  | none =>
    cases hb : find b n with
    | none => simp
    | some fb =>
      have hid : fb.id = n := (find_mem hb).2
      cases ho : find o n with
      | none => simp
      | some fo =>
        cases ht : find t n with
        | none => simp
        | some ft =>
          simp only [mergeFeature_eq, hid]
def mRes (side : Bool) (b o t : Version) (n : Nat) : Option Feature × List (Nat × Nat) := mFeat side (find b n) (find o n) (find t n)
theorem merge_eq (side : Bool) (b o t : Version) : merge side b o t = ((idsOf [b, o, t]).filterMap fun n => (mRes side b o t n).1, (idsOf [b, o, t]).flatMap fun n => (mRes side b o t n).2.map fun c : Nat × Nat => (⟨n, c.1, c.2⟩ : Conflict)) := by
  unfold merge
  have e : (idsOf [b, o, t]).map (mergeId side b o t) = (idsOf [b, o, t]).map fun n => ((mRes side b o t n).1, (mRes side b o t n).2.map fun c : Nat × Nat => (⟨n, c.1, c.2⟩ : Conflict)) := List.map_congr_left fun n _ => mergeId_eq side b o t n
  rw [e]
  simp only [List.filterMap_map, List.flatMap_map]
  rfl
def mRows (side : Bool) (b o t : Version) (ids : List Nat) : List (List Int) := ids.flatMap fun n => (mRes side b o t n).2.map (cRow n)
theorem merge_rows (side : Bool) (b o t : Version) : (merge side b o t).2.map (fun c => Kvg9.ints [c.id, c.kind, c.index]) = mRows side b o t (idsOf [b, o, t]) := by
  rw [merge_eq]
  unfold mRows
  rw [List.map_flatMap]
  congr 1
  funext n
  rw [List.map_map]
  rfl
theorem conf_row (l : List Conflict) : Kvg9Neutral.resultRow (conflictsResult l) = -35 :: (l.length : Int) :: (l.map fun c => Kvg9.ints [c.id, c.kind, c.index]).flatten := by
  unfold Kvg9Neutral.resultRow conflictsResult
  rw [List.flatMap_def]
/-- the id of what comes out -/
theorem mFeat_id {side : Bool} {b o t : Option Feature} {n : Nat} (hb : ∀ f, b = some f → f.id = n) (ho : ∀ f, o = some f → f.id = n) (ht : ∀ f, t = some f → f.id = n) {f : Feature} (h : (mFeat side b o t).1 = some f) : f.id = n := by
  unfold mFeat at h
  cases hm : mergeValue b o t with
  | some g =>
    rw [hm] at h
    have h : g = some f := h
    have hv := mVal_mem side b o t
    unfold mVal at hv
    rw [hm] at hv
    rcases hv with e | e
    · exact ho f (by rw [← e]; exact h)
    · exact ht f (by rw [← e]; exact h)
  | none =>
    rw [hm] at h
    cases b with
    | none =>
      have h : (if side then t else o) = some f := h
      cases side
      · exact ho f h
      · exact ht f h
    | some fb =>
      cases o with
      | none =>
        have h : (if side then t else none) = some f := h
        cases side
        · cases h
        · exact ht f h
      | some fo =>
        cases t with
        | none =>
          have h : (if side then none else some fo) = some f := h
          cases side
          · exact ho f h
          · cases h
        | some ft =>
          have h := Option.some.inj h
          rw [← h]
          exact hb fb rfl
/-- how many conflicts at most -/
theorem mVerts_len {side : Bool} {b o t : List (Int × Int)} : (mVerts side b o t).2.length ≤ max 1 b.length := by
  unfold mVerts
  cases mergeValue b o t with
  | some v => simp
  | none =>
    simp only []
    split
    · rw [List.length_map, mergeLists_eq]
      have := cUp_len b o t (0, 0) b.length
      show (cUp b o t (0, 0) b.length).length ≤ _
      omega
    · exact Nat.le_max_left 1 _
theorem mFeat_len {side : Bool} {b o t : Option Feature} (h1 : ∀ f, b = some f → f.attributes.length ≤ 8) (h2 : ∀ f, b = some f → f.vertices.length ≤ 12) : (mFeat side b o t).2.length ≤ 20 := by
  unfold mFeat
  cases mergeValue b o t with
  | some v => simp
  | none =>
    cases b with
    | none => simp
    | some fb =>
      cases o with
      | none => simp
      | some fo =>
        cases t with
        | none => simp
        | some ft =>
          have := h1 fb rfl
          have := h2 fb rfl
          have := mVerts_len (side := side) (b := fb.vertices) (o := fo.vertices) (t := ft.vertices)
          have h3 := cUp_len fb.attributes fo.attributes ft.attributes 0 fb.attributes.length
          simp only [List.length_append, List.length_map]
          rw [mergeLists_eq]
          show (cUp fb.attributes fo.attributes ft.attributes 0 fb.attributes.length).length + _ ≤ 20
          omega
/-- what comes out is in order -/
theorem mVerts_ok {side : Bool} {b o t : List (Int × Int)} (p : Int × Int → Prop) (ho : (1 ≤ o.length ∧ o.length ≤ 12) ∧ ∀ v ∈ o, p v) (ht : (1 ≤ t.length ∧ t.length ≤ 12) ∧ ∀ v ∈ t, p v) : (1 ≤ (mVerts side b o t).1.length ∧ (mVerts side b o t).1.length ≤ 12) ∧ ∀ v ∈ (mVerts side b o t).1, p v := by
  unfold mVerts
  cases hm : mergeValue b o t with
  | some v =>
    have hv := mVal_mem side b o t
    unfold mVal at hv
    rw [hm] at hv
    rcases hv with e | e
    · have e : v = o := e
      simp only [e]; exact ho
    · have e : v = t := e
      simp only [e]; exact ht
  | none =>
    simp only []
    split
    · rename_i h
      rw [mergeLists_eq]
      show (1 ≤ (mUp side b o t (0, 0) b.length).length ∧ (mUp side b o t (0, 0) b.length).length ≤ 12) ∧ ∀ v ∈ mUp side b o t (0, 0) b.length, p v
      rw [mUp_len]
      refine ⟨by omega, fun v hv => ?_⟩
      rcases mUp_mem (by omega) (by omega) v hv with h | h
      · exact ho.2 v h
      · exact ht.2 v h
    · cases side
      · exact ho
      · exact ht
theorem mFeat_ok {side : Bool} {b o t : Option Feature} {k : Nat} (hb : ∀ f, b = some f → FOk k f) (ho : ∀ f, o = some f → FOk k f) (ht : ∀ f, t = some f → FOk k f) {f : Feature} (h : (mFeat side b o t).1 = some f) : FOk k f := by
  unfold mFeat at h
  cases hm : mergeValue b o t with
  | some g =>
    rw [hm] at h
    have h : g = some f := h
    have hv := mVal_mem side b o t
    unfold mVal at hv
    rw [hm] at hv
    rcases hv with e | e
    · exact ho f (by rw [← e]; exact h)
    · exact ht f (by rw [← e]; exact h)
  | none =>
    rw [hm] at h
    cases b with
    | none =>
      have h : (if side then t else o) = some f := h
      cases side
      · exact ho f h
      · exact ht f h
    | some fb =>
      cases o with
      | none =>
        have h : (if side then t else none) = some f := h
        cases side
        · cases h
        · exact ht f h
      | some fo =>
        cases t with
        | none =>
          have h : (if side then none else some fo) = some f := h
          cases side
          · exact ho f h
          · cases h
        | some ft =>
          have h := Option.some.inj h
          have kb := hb fb rfl
          have ko := ho fo rfl
          have kt := ht ft rfl
          rw [← h]
          have hv := mVerts_ok (side := side) (b := fb.vertices) (fun v : Int × Int => (-1000000 ≤ v.1 ∧ v.1 ≤ 1000000) ∧ (-1000000 ≤ v.2 ∧ v.2 ≤ 1000000)) ⟨⟨ko.v1, ko.v2⟩, ko.vr⟩ ⟨⟨kt.v1, kt.v2⟩, kt.vr⟩
          refine ⟨kb.id, ?_, ?_, hv.1.1, hv.1.2, hv.2⟩
          · rw [mergeLists_eq]
            show (mUp side fb.attributes fo.attributes ft.attributes 0 fb.attributes.length).length = k
            rw [mUp_len, kb.al]
          · rw [mergeLists_eq]
            intro x hx
            rcases mUp_mem (by rw [kb.al, ko.al]; exact Nat.le_refl _) (by rw [kb.al, kt.al]; exact Nat.le_refl _) x hx with h | h
            · exact ko.ar x h
            · exact kt.ar x h
theorem find_fok {k : Nat} {v : Version} (h : ∀ f ∈ v, FOk k f) (n : Nat) : ∀ f, find v n = some f → FOk k f := fun f hf => h f (find_mem hf).1
/-- the merged version, some way -/
def mVer (side : Bool) (b o t : Version) (ids : List Nat) : Version := ids.filterMap fun n => (mRes side b o t n).1
theorem mVer_mem {side : Bool} {b o t : Version} {ids : List Nat} {f : Feature} (h : f ∈ mVer side b o t ids) : f.id ∈ ids ∧ (mRes side b o t f.id).1 = some f := by
  obtain ⟨n, hn, e⟩ := List.mem_filterMap.mp h
  have hid : f.id = n := mFeat_id (fun f h => (find_mem h).2) (fun f h => (find_mem h).2) (fun f h => (find_mem h).2) e
  rw [hid]
  exact ⟨hn, e⟩
theorem mVer_srt {side : Bool} {b o t : Version} : ∀ {ids : List Nat}, ids.Pairwise (· < ·) → Srt (mVer side b o t ids)
  | [], _ => List.Pairwise.nil
  | n :: ids, h => by
    obtain ⟨h1, h2⟩ := List.pairwise_cons.mp h
    unfold mVer
    rw [List.filterMap_cons]
    cases e : (mRes side b o t n).1 with
    | none => exact mVer_srt h2
    | some f =>
      have hid : f.id = n := mFeat_id (fun f h => (find_mem h).2) (fun f h => (find_mem h).2) (fun f h => (find_mem h).2) e
      refine List.pairwise_cons.mpr ⟨fun g hg => ?_, mVer_srt h2⟩
      have := (mVer_mem (ids := ids) hg).1
      rw [hid]
      exact h1 _ this
theorem ins_last {f : Feature} : ∀ {v : Version}, (∀ g ∈ v, g.id < f.id) → insertFeature f v = v ++ [f]
  | [], _ => rfl
  | g :: v, h => by
    unfold insertFeature
    have := h g (by simp)
    rw [if_neg (by omega), if_neg (by omega), ins_last fun x hx => h x (List.mem_cons_of_mem _ hx)]
    rfl
theorem mVer_snoc {side : Bool} {b o t : Version} {ids : List Nat} {n : Nat} (h : ∀ m ∈ ids, m < n) : mVer side b o t (ids ++ [n]) = match (mRes side b o t n).1 with
    | none => mVer side b o t ids
    | some f => insertFeature f (mVer side b o t ids) := by
  have e0 : mVer side b o t (ids ++ [n]) = mVer side b o t ids ++ mVer side b o t [n] := by
    unfold mVer
    rw [List.filterMap_append]
  rw [e0]
  have e1 : mVer side b o t [n] = match (mRes side b o t n).1 with
    | none => []
    | some f => [f] := by
    unfold mVer
    rw [List.filterMap_cons]
    cases (mRes side b o t n).1 <;> rfl
  rw [e1]
  cases e : (mRes side b o t n).1 with
  | none => simp
  | some f =>
    have hid : f.id = n := mFeat_id (fun f h => (find_mem h).2) (fun f h => (find_mem h).2) (fun f h => (find_mem h).2) e
    show mVer side b o t ids ++ [f] = insertFeature f (mVer side b o t ids)
    rw [ins_last fun g hg => by rw [hid]; exact h _ (mVer_mem hg).1]
theorem ids3_len {b o t : Version} (h1 : b.length ≤ 16) (h2 : o.length ≤ 16) (h3 : t.length ≤ 16) : (idsOf [b, o, t]).length ≤ 48 := by
  have := idsOf_len (vs := [b, o, t])
  simp at this
  omega
theorem mVer_fok {side : Bool} {b o t : Version} {k : Nat} {ids : List Nat} (hb : VOk k b) (ho : VOk k o) (ht : VOk k t) : ∀ f ∈ mVer side b o t ids, FOk k f := fun f hf =>
  mFeat_ok (find_fok hb.all _) (find_fok ho.all _) (find_fok ht.all _) (mVer_mem hf).2
end Pv
end
section
set_option Elab.async false
set_option linter.all false
set_option maxRecDepth 100000
set_option maxHeartbeats 2000000
namespace Pv
open PySem PySem.Spec PyProof.Rows L2 Kvg9
open L2 (Dp DpAll)
abbrev cCom (K : PySem.W.Frag) : Addr := He.ga K "Commit"
abbrev cSto (K : PySem.W.Frag) : Addr := He.ga K "Store"
abbrev cSes (K : PySem.W.Frag) : Addr := He.ga K "Session"
/-! ### fields -/
def fNames : List Str := ["attribute_count", "commits", "commit_count", "branches", "current_branch", "tags", "working"]
structure Fld (fs : List (Str × V)) (ac cm cc br cu tg wk : V) : Prop where
  ac : fs.lookup ("attribute_count" : Str) = some ac
  cm : fs.lookup ("commits" : Str) = some cm
  cc : fs.lookup ("commit_count" : Str) = some cc
  br : fs.lookup ("branches" : Str) = some br
  cu : fs.lookup ("current_branch" : Str) = some cu
  tg : fs.lookup ("tags" : Str) = some tg
  wk : fs.lookup ("working" : Str) = some wk
  only : ∀ m, fNames.contains m = false → fs.lookup m = none
  len : fs.length ≤ 7
theorem putF_len {f : Str} {v : V} : ∀ {fs : List (Str × V)}, (fs.lookup f).isSome = true → (putF f v fs).length = fs.length
  | [], h => by simp at h
  | (g, u) :: r, h => by
    unfold putF
    by_cases q : g = f
    · rw [if_pos q]; rfl
    · rw [if_neg q]
      have : (r.lookup f).isSome = true := by
        rw [List.lookup_cons] at h
        rw [show (f == g) = false by simp; exact fun z => q z.symm] at h
        exact h
      rw [List.length_cons, putF_len this]; rfl
theorem putF_len1 {f : Str} {v : V} : ∀ {fs : List (Str × V)}, (putF f v fs).length ≤ fs.length + 1
  | [] => by show 1 ≤ 1; decide
  | (g, u) :: r => by
    unfold putF
    split
    · simp
    · have := putF_len1 (f := f) (v := v) (fs := r)
      simp; omega
section
variable {fs : List (Str × V)} {ac cm cc br cu tg wk x : V}
theorem fn_ne {m f : Str} (h : fNames.contains m = false) (hf : fNames.contains f = true) : ¬ m = f := fun z => by rw [z, hf] at h; cases h
theorem Fld.setCC (F : Fld fs ac cm cc br cu tg wk) (x : V) : Fld (putF ("commit_count" : Str) x fs) ac cm x br cu tg wk := by
  refine ⟨?_, ?_, ?_, ?_, ?_, ?_, ?_, fun m hm => ?_, ?_⟩
  · rw [lookup_putF, if_neg (by decide +kernel)]; exact F.ac
  · rw [lookup_putF, if_neg (by decide +kernel)]; exact F.cm
  · rw [lookup_putF, if_pos rfl]
  · rw [lookup_putF, if_neg (by decide +kernel)]; exact F.br
  · rw [lookup_putF, if_neg (by decide +kernel)]; exact F.cu
  · rw [lookup_putF, if_neg (by decide +kernel)]; exact F.tg
  · rw [lookup_putF, if_neg (by decide +kernel)]; exact F.wk
  · rw [lookup_putF, if_neg (fn_ne hm (by decide +kernel))]; exact F.only m hm
  · rw [putF_len (by rw [F.cc]; rfl)]; exact F.len
theorem Fld.setCU (F : Fld fs ac cm cc br cu tg wk) (x : V) : Fld (putF ("current_branch" : Str) x fs) ac cm cc br x tg wk := by
  refine ⟨?_, ?_, ?_, ?_, ?_, ?_, ?_, fun m hm => ?_, ?_⟩
  · rw [lookup_putF, if_neg (by decide +kernel)]; exact F.ac
  · rw [lookup_putF, if_neg (by decide +kernel)]; exact F.cm
  · rw [lookup_putF, if_neg (by decide +kernel)]; exact F.cc
  · rw [lookup_putF, if_neg (by decide +kernel)]; exact F.br
  · rw [lookup_putF, if_pos rfl]
  · rw [lookup_putF, if_neg (by decide +kernel)]; exact F.tg
  · rw [lookup_putF, if_neg (by decide +kernel)]; exact F.wk
  · rw [lookup_putF, if_neg (fn_ne hm (by decide +kernel))]; exact F.only m hm
  · rw [putF_len (by rw [F.cu]; rfl)]; exact F.len
theorem Fld.setWK (F : Fld fs ac cm cc br cu tg wk) (x : V) : Fld (putF ("working" : Str) x fs) ac cm cc br cu tg x := by
  refine ⟨?_, ?_, ?_, ?_, ?_, ?_, ?_, fun m hm => ?_, ?_⟩
  · rw [lookup_putF, if_neg (by decide +kernel)]; exact F.ac
  · rw [lookup_putF, if_neg (by decide +kernel)]; exact F.cm
  · rw [lookup_putF, if_neg (by decide +kernel)]; exact F.cc
  · rw [lookup_putF, if_neg (by decide +kernel)]; exact F.br
  · rw [lookup_putF, if_neg (by decide +kernel)]; exact F.cu
  · rw [lookup_putF, if_neg (by decide +kernel)]; exact F.tg
  · rw [lookup_putF, if_pos rfl]
  · rw [lookup_putF, if_neg (fn_ne hm (by decide +kernel))]; exact F.only m hm
  · rw [putF_len (by rw [F.wk]; rfl)]; exact F.len
end
/-! ### commits -/
structure ComAt (K : PySem.W.Frag) (H : Hp) (av : List Addr) (c : Addr) (cm : Commit) (hs : Nat) : Prop where
  ex : ∃ dx fs p d, H c = some (.ins (cCom K) dx fs) ∧ fs.lookup ("parents" : Str) = some (.ref p) ∧ fs.lookup ("version" : Str) = some (.ref d) ∧ fs.lookup ("hash_value" : Str) = some (.int (hs : Nat)) ∧
    H p = some (.lst (cm.parents.map fun n => V.int (n : Nat))) ∧ VerAt K H d cm.version ∧ c ∉ av ∧ p ∉ av ∧ d ∉ av
/-- the commits that are there, by number -/
def live (s : Store) : List Nat := (List.range s.commits.length).filter fun n => (s.commit n).isSome
structure ComD (K : PySem.W.Frag) (H : Hp) (av : List Addr) (kvs : List (Key × V)) (s : Store) : Prop where
  keys : kvs.map (·.1) = (live s).map kI
  at_ : ∀ n cm, s.commit n = some cm → ∃ c, valV kvs (kI n) = some (.ref c) ∧ ComAt K H av c cm (s.hashes.getD n 0)
structure NamD (kvs : List (Key × V)) (l : List (Nat × Nat)) : Prop where
  nd : (kvs.map (·.1)).Nodup
  only : ∀ k ∈ kvs.map (·.1), ∃ n : Nat, k = kI n
  get : ∀ n : Nat, valV kvs (kI n) = (lookup l n).map fun c => V.int (c : Nat)
structure Mu where
  dc : Addr
  db : Addr
  dt : Addr
  dw : Addr
def Mu.av (m : Mu) (a : Addr) : List Addr := [a, m.dc, m.db, m.dt, m.dw]
def Mu.co (m : Mu) (a : Addr) : List Addr := [a, m.dc, m.db, m.dt]
structure Mu.Ap (m : Mu) : Prop where
  cb : m.dc ≠ m.db
  ct : m.dc ≠ m.dt
  cw : m.dc ≠ m.dw
  bt : m.db ≠ m.dt
  bw : m.db ≠ m.dw
  tw : m.dt ≠ m.dw
structure StoreG (K : PySem.W.Frag) (H : Hp) (a : Addr) (s : Store) (m : Mu) (av : List Addr) : Prop where
  ob : ∃ dx fs, H a = some (.ins (cSto K) dx fs) ∧ Fld fs (.int (s.attributeCount : Nat)) (.ref m.dc) (.int (s.commits.length : Nat)) (.ref m.db) (.int (s.current : Nat)) (.ref m.dt) (.ref m.dw)
  cm : ∃ kvs, H m.dc = some (.dK kvs) ∧ ComD K H av kvs s
  br : ∃ kvs, H m.db = some (.dK kvs) ∧ NamD kvs s.branches
  tg : ∃ kvs, H m.dt = some (.dK kvs) ∧ NamD kvs s.tags
  wk : VerAt K H m.dw s.working
  ap : m.Ap
/-- a store; the commits' things stand apart from all that an operation changes -/
abbrev StoreAt (K : PySem.W.Frag) (H : Hp) (a : Addr) (s : Store) (m : Mu) : Prop := StoreG K H a s m (m.av a)
/-- what an operation leaves of a heap -/
structure Fr (H : Hp) (a : Addr) (m : Mu) (H' : Hp) (m' : Mu) : Prop where
  st : ∀ b o, H b = some o → b ∉ m.av a → H' b = some o
  nw : ∀ b ∈ m'.av a, b ∈ m.av a ∨ H b = none
  al : ∀ b, H' b = none → H b = none
section
variable {K : PySem.W.Frag} {H H' H1 H2 : Hp} {a b c d : Addr} {s : Store} {m m1 m2 : Mu} {av : List Addr} {kvs : List (Key × V)} {v : Version} {o : HO}
theorem ComAt.keep {cm : Commit} {hs : Nat} (k : ∀ b o, H b = some o → b ∉ av → (∀ ps, o ≠ .tbl ps) → H' b = some o) (t : Tup H H') (h : ComAt K H av c cm hs) : ComAt K H' av c cm hs := by
  obtain ⟨dx, fs, p, d, h1, h2, h3, h4, h5, ⟨kvs, h6, h7⟩, h8, h9, h10⟩ := h.ex
  exact ⟨dx, fs, p, d, k _ _ h1 h8 (fun _ z => by cases z), h2, h3, h4, k _ _ h5 h9 (fun _ z => by cases z), ⟨kvs, k _ _ h6 h10 (fun _ z => by cases z), h7.tup t⟩, h8, h9, h10⟩
theorem ComAt.off {cm : Commit} {hs : Nat} {av' : List Addr} (k : ∀ b ∈ av', b ∈ av ∨ H b = none) (h : ComAt K H av c cm hs) : ComAt K H av' c cm hs := by
  obtain ⟨dx, fs, p, d, h1, h2, h3, h4, h5, ⟨kvs, h6, h7⟩, h8, h9, h10⟩ := h.ex
  refine ⟨dx, fs, p, d, h1, h2, h3, h4, h5, ⟨kvs, h6, h7⟩, fun z => ?_, fun z => ?_, fun z => ?_⟩
  · rcases k _ z with q | q
    · exact h8 q
    · rw [h1] at q; cases q
  · rcases k _ z with q | q
    · exact h9 q
    · rw [h5] at q; cases q
  · rcases k _ z with q | q
    · exact h10 q
    · rw [h6] at q; cases q
theorem ComD.keep (k : ∀ b o, H b = some o → b ∉ av → (∀ ps, o ≠ .tbl ps) → H' b = some o) (t : Tup H H') (h : ComD K H av kvs s) : ComD K H' av kvs s :=
  ⟨h.keys, fun n cm e => let ⟨c, h1, h2⟩ := h.at_ n cm e; ⟨c, h1, h2.keep k t⟩⟩
theorem StoreG.same (e : Same H H') (S : StoreG K H a s m av) : StoreG K H' a s m av := by
  obtain ⟨⟨dx, fs, h1, F⟩, ⟨kc, h2, C⟩, ⟨kb, h3, B⟩, ⟨kt, h4, T⟩, W, A⟩ := S
  exact ⟨⟨dx, fs, e _ _ h1, F⟩, ⟨kc, e _ _ h2, C.keep (fun b o q _ _ => e b o q) (Tup.of e)⟩, ⟨kb, e _ _ h3, B⟩, ⟨kt, e _ _ h4, T⟩, W.same e, A⟩
theorem StoreG.ne_a (S : StoreG K H a s m av) : a ≠ m.dc ∧ a ≠ m.db ∧ a ≠ m.dt ∧ a ≠ m.dw := by
  obtain ⟨⟨dx, fs, h1, F⟩, ⟨kc, h2, C⟩, ⟨kb, h3, B⟩, ⟨kt, h4, T⟩, ⟨kw, h5, W⟩, A⟩ := S
  exact ⟨ne_of h1 h2 (by intro z; cases z), ne_of h1 h3 (by intro z; cases z), ne_of h1 h4 (by intro z; cases z), ne_of h1 h5 (by intro z; cases z)⟩
theorem StoreG.notTup (S : StoreG K H a s m av) (hb : b ∈ m.av a) : ∃ u, H b = some u ∧ isTup u = false ∧ ∀ ps, u ≠ .tbl ps := by
  obtain ⟨⟨dx, fs, h1, F⟩, ⟨kc, h2, C⟩, ⟨kb, h3, B⟩, ⟨kt, h4, T⟩, ⟨kw, h5, W⟩, A⟩ := S
  have : b = a ∨ b = m.dc ∨ b = m.db ∨ b = m.dt ∨ b = m.dw := by simpa [Mu.av] using hb
  rcases this with e | e | e | e | e <;> rw [e]
  · exact ⟨_, h1, rfl, fun _ z => by cases z⟩
  · exact ⟨_, h2, rfl, fun _ z => by cases z⟩
  · exact ⟨_, h3, rfl, fun _ z => by cases z⟩
  · exact ⟨_, h4, rfl, fun _ z => by cases z⟩
  · exact ⟨_, h5, rfl, fun _ z => by cases z⟩
theorem Fr.refl (H : Hp) (a : Addr) (m : Mu) : Fr H a m H m := ⟨fun _ _ e _ => e, fun _ h => .inl h, fun _ h => h⟩
theorem Fr.of_same (e : Same H H') : Fr H a m H' m := ⟨fun b o h _ => e b o h, fun _ h => .inl h, fun _ h => e.free h⟩
theorem Fr.trans (x : Fr H a m H1 m1) (y : Fr H1 a m1 H2 m2) : Fr H a m H2 m2 := by
  refine ⟨fun b o h hb => y.st b o (x.st b o h hb) (fun z => ?_), fun b hb => ?_, fun b h => x.al b (y.al b h)⟩
  · rcases x.nw b z with q | q
    · exact hb q
    · rw [h] at q; cases q
  · rcases y.nw b hb with q | q
    · exact x.nw b q
    · exact .inr (x.al b q)
theorem Fr.upd (hb : b ∈ m.av a) : Fr H a m (upd H b o) m := by
  refine ⟨fun c u h hc => ?_, fun _ h => .inl h, fun c h => ?_⟩
  · rw [upd_ne (fun z => hc (by rw [z]; exact hb))]; exact h
  · by_cases e : c = b
    · rw [e, upd_same] at h; cases h
    · rw [upd_ne e] at h; exact h
theorem Fr.tup (S : StoreG K H a s m av) (x : Fr H a m H1 m1) : Tup H H1 := fun b o h t => by
  refine x.st b o h (fun z => ?_)
  obtain ⟨u, h1, h2, _⟩ := S.notTup z
  rw [h] at h1
  cases h1
  rw [t] at h2
  cases h2
theorem ComD.off {av' : List Addr} (k : ∀ b ∈ av', b ∈ av ∨ H b = none) (h : ComD K H av kvs s) : ComD K H av' kvs s := ⟨h.keys, fun n cm e => let ⟨c, h1, h2⟩ := h.at_ n cm e; ⟨c, h1, h2.off k⟩⟩
theorem co_av {b : Addr} (h : b ∈ m.co a) : b ∈ m.av a := by
  have : b = a ∨ b = m.dc ∨ b = m.db ∨ b = m.dt := by simpa [Mu.co] using h
  simp [Mu.av]
  rcases this with e | e | e | e <;> simp [e]
theorem StoreG.core (S : StoreAt K H a s m) : StoreG K H a s m (m.co a) := ⟨S.ob, let ⟨k, h1, h2⟩ := S.cm; ⟨k, h1, h2.off fun b hb => .inl (co_av hb)⟩, S.br, S.tg, S.wk, S.ap⟩
/-- one of the store's own things is changed: the commits stand -/
theorem StoreG.com_upd (S : StoreG K H a s m av) (hb : b ∈ m.av a) (hv : b ∈ av) {k : List (Key × V)} (C : ComD K H av k s) : ComD K (upd H b o) av k s := by
  obtain ⟨u, h1, h2, _⟩ := S.notTup hb
  exact C.keep (fun c x e hc _ => by rw [upd_ne (fun z => hc (by rw [z]; exact hv))]; exact e) (Tup.upd h1 h2)
theorem StoreG.ver_upd (S : StoreG K H a s m av) (hb : b ∈ m.av a) (h : VerD K H kvs v) : VerD K (upd H b o) kvs v := by
  obtain ⟨u, h1, h2, _⟩ := S.notTup hb
  exact h.tup (Tup.upd h1 h2)
theorem av_a : a ∈ m.av a := by simp [Mu.av]
theorem av_c : m.dc ∈ m.av a := by simp [Mu.av]
theorem av_b : m.db ∈ m.av a := by simp [Mu.av]
theorem av_t : m.dt ∈ m.av a := by simp [Mu.av]
theorem av_w : m.dw ∈ m.av a := by simp [Mu.av]
/-- what an operation may do at most: the tables of code objects may grow, too -/
structure FrT (H : Hp) (a : Addr) (m : Mu) (H' : Hp) (m' : Mu) : Prop where
  st : ∀ b o, H b = some o → b ∉ m.av a → (∀ ps, o ≠ .tbl ps) → H' b = some o
  nw : ∀ b ∈ m'.av a, b ∈ m.av a ∨ H b = none
  al : ∀ b, H' b = none → H b = none
def lamQ (n : Str) : Str := n ++ ".<locals>." ++ "<lambda>"
def Tabs (K : PySem.W.Frag) (H : Hp) : Prop := ∀ p ∈ tf, LamX.TabS H (He.cT K p).2 (lamQ p.1)
theorem Fr.t (x : Fr H a m H1 m1) : FrT H a m H1 m1 := ⟨fun b o h hb _ => x.st b o h hb, x.nw, x.al⟩
theorem Fr.tabs (S : StoreG K H a s m av) (x : Fr H a m H1 m1) (t : Tabs K H) : Tabs K H1 := fun p hp => by
  obtain ⟨ps, h1, h2, h3⟩ := t p hp
  refine ⟨ps, x.st _ _ h1 (fun z => ?_), h2, fun pos cv hc => ?_⟩
  · obtain ⟨u, e, _, n⟩ := S.notTup z
    rw [h1] at e
    cases e
    exact n _ rfl
  · obtain ⟨c, e1, e2⟩ := h3 pos cv hc
    refine ⟨c, e1, x.st _ _ e2 (fun z => ?_)⟩
    obtain ⟨⟨dx, fs, q1, F⟩, ⟨kc, q2, C⟩, ⟨kb, q3, B⟩, ⟨kt, q4, T⟩, ⟨kw, q5, W⟩, A⟩ := S
    have : c = a ∨ c = m.dc ∨ c = m.db ∨ c = m.dt ∨ c = m.dw := by simpa [Mu.av] using z
    unfold LamX.CodeO at e2
    rcases this with e | e | e | e | e
    · rw [e, q1] at e2; cases e2
    · rw [e, q2] at e2; cases e2
    · rw [e, q3] at e2; cases e2
    · rw [e, q4] at e2; cases e2
    · rw [e, q5] at e2; cases e2
end
/-- an operation's promise: the specification's answer in a new list, the specification's next store -/
def spRun (K : PySem.W.Frag) {A : Type} (giv : A → List V → Hp → Prop) (ok : A → Prop) (op : A → Operation) : Sp := fun vs H Q _ => ∃ a s m g x xs, vs = [.ref a, .ref g] ∧ StoreAt K H a s m ∧ Good s ∧ Tabs K H ∧ H g = some (.lst xs) ∧ giv x xs H ∧ ok x ∧
  ∀ r H' m', StoreAt K H' a (s.run (op x)).1 m' → FrT H a m H' m' → Tabs K H' → H r = none → r ∉ m'.av a → H' r = some (.lst ((Kvg9Neutral.resultRow (s.run (op x)).2).map V.int)) → Q (.ref r) H'
abbrev nat32 (n : Nat) : Prop := n < 4294967296
def g1 : Nat → List V → Hp → Prop := fun x xs _ => xs = [V.int (x : Nat)]
def g2 : Nat × Nat → List V → Hp → Prop := fun x xs _ => xs = [V.int (x.1 : Nat), V.int (x.2 : Nat)]
def g3 : Nat × Nat × Nat → List V → Hp → Prop := fun x xs _ => xs = [V.int (x.1 : Nat), V.int (x.2.1 : Nat), V.int (x.2.2 : Nat)]
def g0 : Unit → List V → Hp → Prop := fun _ xs _ => xs = []
section
variable {K : PySem.W.Frag} {H : Hp} {a g : Addr} {s : Store} {m : Mu} {Q : VK} {l : List Int}
theorem StoreG.new_off {H' : Hp} {r : Addr} (S : StoreAt K H a s m) (h : H r = none) : r ∉ m.av a := fun z => by
  obtain ⟨u, e, _⟩ := S.notTup z
  rw [h] at e
  cases e
theorem ComD.isSome {av : List Addr} {kvs : List (Key × V)} (C : ComD K H av kvs s) (n : Nat) : (valV kvs (kI n)).isSome = (s.commit n).isSome := by
  cases hc : s.commit n with
  | some cm =>
    obtain ⟨c, e, _⟩ := C.at_ n cm hc
    rw [e]; rfl
  | none =>
    cases e : valV kvs (kI n) with
    | none => rfl
    | some x =>
      have m := valV_in e
      rw [C.keys] at m
      obtain ⟨j, hj, ej⟩ := List.mem_map.mp m
      rw [kI_inj.mp ej] at hj
      have := (List.mem_filter.mp hj).2
      rw [hc] at this
      cases this
theorem VerD.sorted {kvs : List (Key × V)} {v : Version} (D : VerD K H kvs v) (s : Srt v) : ∃ ks : List Int, kvs.map (·.1) = ks.map Sum.inl ∧ ks.length = v.length ∧ ∀ ys : List Int, ys.Perm ks → ys.Pairwise (· ≤ ·) → ys = v.map fun f => (f.id : Int) := by
  have ex : ∀ l : List Key, (∀ k ∈ l, ∃ n : Nat, k = kI n) → ∃ ks : List Int, l = ks.map Sum.inl ∧ ∀ z, z ∈ ks ↔ (Sum.inl z : Key) ∈ l := by
    intro l
    induction l with
    | nil => exact fun _ => ⟨[], rfl, by simp⟩
    | cons k l ih =>
      intro h
      obtain ⟨ks, e, m⟩ := ih fun x hx => h x (List.mem_cons_of_mem _ hx)
      obtain ⟨n, en⟩ := h k (by simp)
      refine ⟨(n : Int) :: ks, by rw [e, en]; rfl, fun z => ?_⟩
      rw [List.mem_cons, List.mem_cons, m, en]
      constructor
      · rintro (q | q)
        · exact .inl (by rw [q])
        · exact .inr q
      · rintro (q | q)
        · exact .inl (Sum.inl.inj q)
        · exact .inr q
  obtain ⟨ks, e, m⟩ := ex _ D.only
  have hl : ks.length = v.length := by
    rw [← D.len s]
    have := congrArg List.length e
    rw [List.length_map, List.length_map] at this
    exact this.symm
  refine ⟨ks, e, hl, fun ys hp hs => ?_⟩
  have nd : ks.Nodup := by
    have := D.nd
    rw [e] at this
    exact List.nodup_iff_pairwise_ne.mpr (List.Pairwise.of_map _ (fun a b h z => h (by rw [z])) (List.nodup_iff_pairwise_ne.mp this))
  have nd2 := hp.nodup_iff.mpr nd
  refine strict_extI ?_ ?_ fun z => ?_
  · have h1 := List.nodup_iff_pairwise_ne.mp nd2
    exact List.Pairwise.imp (fun {a b} (h : a ≤ b ∧ a ≠ b) => by omega) (List.Pairwise.and hs h1)
  · rw [List.pairwise_map]
    exact List.Pairwise.imp (R := fun (a b : Feature) => a.id < b.id) (fun {a b} h => by omega) s
  · rw [hp.mem_iff, m, D.keys, List.mem_map]
    constructor
    · rintro ⟨n, hz, hn⟩
      obtain ⟨f, hf, e⟩ := find_isSome.mp hn
      exact ⟨f, hf, by rw [e]; exact (Sum.inl.inj hz).symm⟩
    · rintro ⟨f, hf, rfl⟩
      exact ⟨f.id, rfl, find_isSome.mpr ⟨f, hf, rfl⟩⟩
/-- the working version's dict is written -/
theorem StoreG.setW {kvs : List (Key × V)} {v : Version} (S : StoreAt K H a s m) (D : VerD K H kvs v) : StoreAt K (upd H m.dw (.dK kvs)) a { s with working := v } m := by
  obtain ⟨⟨dx, fs, h1, F⟩, ⟨kc, h2, C⟩, ⟨kb, h3, B⟩, ⟨kt, h4, T⟩, W, A⟩ := id S
  obtain ⟨na, nb, nt, nw⟩ := S.ne_a
  have C2 := S.com_upd (o := .dK kvs) av_w av_w C
  exact ⟨⟨dx, fs, by rw [upd_ne nw]; exact h1, F⟩, ⟨kc, by rw [upd_ne A.cw]; exact h2, ⟨C2.keys, C2.at_⟩⟩, ⟨kb, by rw [upd_ne A.bw]; exact h3, B⟩, ⟨kt, by rw [upd_ne A.tw]; exact h4, T⟩, ⟨kvs, upd_same, S.ver_upd av_w D⟩, A⟩
theorem StoreG.setB {av : List Addr} {kvs : List (Key × V)} {l : List (Nat × Nat)} (S : StoreG K H a s m av) (hv : m.db ∈ av) (D : NamD kvs l) : StoreG K (upd H m.db (.dK kvs)) a { s with branches := l } m av := by
  obtain ⟨⟨dx, fs, h1, F⟩, ⟨kc, h2, C⟩, ⟨kb, h3, B⟩, ⟨kt, h4, T⟩, ⟨kw, h5, W⟩, A⟩ := id S
  obtain ⟨na, nb, nt, nw⟩ := S.ne_a
  have C2 := S.com_upd (o := .dK kvs) av_b hv C
  exact ⟨⟨dx, fs, by rw [upd_ne nb]; exact h1, F⟩, ⟨kc, by rw [upd_ne A.cb]; exact h2, ⟨C2.keys, C2.at_⟩⟩, ⟨kvs, upd_same, D⟩, ⟨kt, by rw [upd_ne A.bt.symm]; exact h4, T⟩, ⟨kw, by rw [upd_ne A.bw.symm]; exact h5, S.ver_upd av_b W⟩, A⟩
theorem StoreG.setT {kvs : List (Key × V)} {l : List (Nat × Nat)} (S : StoreAt K H a s m) (D : NamD kvs l) : StoreAt K (upd H m.dt (.dK kvs)) a { s with tags := l } m := by
  obtain ⟨⟨dx, fs, h1, F⟩, ⟨kc, h2, C⟩, ⟨kb, h3, B⟩, ⟨kt, h4, T⟩, ⟨kw, h5, W⟩, A⟩ := id S
  obtain ⟨na, nb, nt, nw⟩ := S.ne_a
  have C2 := S.com_upd (o := .dK kvs) av_t av_t C
  exact ⟨⟨dx, fs, by rw [upd_ne nt]; exact h1, F⟩, ⟨kc, by rw [upd_ne A.ct]; exact h2, ⟨C2.keys, C2.at_⟩⟩, ⟨kb, by rw [upd_ne A.bt]; exact h3, B⟩, ⟨kvs, upd_same, D⟩, ⟨kw, by rw [upd_ne A.tw.symm]; exact h5, S.ver_upd av_t W⟩, A⟩
theorem NamD.put {kvs : List (Key × V)} {l : List (Nat × Nat)} (D : NamD kvs l) (n c : Nat) : NamD (putK kvs (kI n) (.int (c : Nat))) (assign n c l) := by
  have kp := keys_put (k := kI n) (x := .int (c : Nat)) D.nd
  refine ⟨kp.1, fun k hk => ?_, fun j => ?_⟩
  · rcases kp.2 k hk with e | q
    · exact ⟨n, e⟩
    · exact D.only k q
  · rw [valV_put, look_assign]
    by_cases e : j = n
    · rw [if_pos (kI_inj.mpr e), if_pos e]; rfl
    · rw [if_neg (fun z => e (kI_inj.mp z)), if_neg e]; exact D.get j
theorem NamD.drop {kvs : List (Key × V)} {l : List (Nat × Nat)} (D : NamD kvs l) (n : Nat) : NamD (dropK kvs (kI n)) (l.filter fun e => e.1 != n) := by
  refine ⟨nd_dropK D.nd, fun k hk => ?_, fun j => ?_⟩
  · rw [valV_key, valV_drop] at hk
    split at hk
    · cases hk
    · exact D.only k (valV_key.mpr hk)
  · rw [valV_drop, look_drop]
    by_cases e : j = n
    · rw [if_pos (kI_inj.mpr e), if_pos e]; rfl
    · rw [if_neg (fun z => e (kI_inj.mp z)), if_neg e]; exact D.get j
theorem NamD.len {kvs : List (Key × V)} {l : List (Nat × Nat)} (D : NamD kvs l) (s : NSrt l) : kvs.length = l.length := by
  have nd2 : (l.map fun e => kI e.1).Nodup := by
    rw [List.nodup_iff_pairwise_ne, List.pairwise_map]
    exact List.Pairwise.imp (fun x y => by have := kI_inj.mp y; omega) s
  have p := (List.perm_ext_iff_of_nodup D.nd nd2).mpr fun k => by
    rw [List.mem_map (f := fun e : Nat × Nat => kI e.1)]
    constructor
    · intro h
      obtain ⟨n, rfl⟩ := D.only k h
      have q := valV_key.mp h
      rw [D.get] at q
      cases e : lookup l n with
      | none => rw [e] at q; cases q
      | some c => exact ⟨(n, c), look_mem e, rfl⟩
    · rintro ⟨e, he, rfl⟩
      refine valV_key.mpr ?_
      rw [D.get, look_of_mem s he]
      rfl
  have := p.length_eq
  rw [List.length_map, List.length_map] at this
  exact this
theorem NamD.isSome {kvs : List (Key × V)} {l : List (Nat × Nat)} (D : NamD kvs l) (n : Nat) : (valV kvs (kI n)).isSome = (lookup l n).isSome := by
  rw [D.get]; cases lookup l n <;> rfl
/-- nothing has changed: the answer is a new list -/
theorem same_done (S : StoreAt K H a s m) (t : Tabs K H) {out : Store × Response} (e1 : out.1 = s) (e2 : Kvg9Neutral.resultRow out.2 = l)
    (k : ∀ r H' m', StoreAt K H' a out.1 m' → FrT H a m H' m' → Tabs K H' → H r = none → r ∉ m'.av a → H' r = some (.lst ((Kvg9Neutral.resultRow out.2).map V.int)) → Q (.ref r) H') {H1 : Hp} {r : Addr} (s1 : Same H H1) (nr : H r = none) (hr : H1 r = some (.lst (l.map V.int))) : Q (.ref r) H1 := by
  have f := Fr.of_same (a := a) (m := m) s1
  exact k r H1 m (by rw [e1]; exact S.same s1) f.t (f.tabs S t) nr (StoreG.new_off (H' := H1) S nr) (by rw [e2]; exact hr)
/-- .. a list written here -/
theorem lit_done (S : StoreAt K H a s m) (t : Tabs K H) {out : Store × Response} (e1 : out.1 = s) (e2 : Kvg9Neutral.resultRow out.2 = l) {vs : List V} (ev : vs = l.map V.int)
    (k : ∀ r H' m', StoreAt K H' a out.1 m' → FrT H a m H' m' → Tabs K H' → H r = none → r ∉ m'.av a → H' r = some (.lst ((Kvg9Neutral.resultRow out.2).map V.int)) → Q (.ref r) H') (hl : vs.length ≤ sizeLine := by rw [sizeLine_eq]; simp only [List.length_cons, List.length_nil]; decide) : vs.length ≤ sizeLine ∧ ∀ p, H p = none → Q (.ref p) (upd H p (.lst vs)) :=
  ⟨hl, fun p np => same_done S t e1 e2 k (same_upd np) np (by rw [upd_same, ev])⟩
/-- the store has changed: the answer is a list written here -/
theorem new_done {H1 : Hp} {s' : Store} {m1 : Mu} (S : StoreAt K H a s m) (t : Tabs K H) (S1 : StoreAt K H1 a s' m1) (f : Fr H a m H1 m1) {out : Store × Response} (e1 : out.1 = s') (e2 : Kvg9Neutral.resultRow out.2 = l) {vs : List V} (ev : vs = l.map V.int)
    (k : ∀ r H' m', StoreAt K H' a out.1 m' → FrT H a m H' m' → Tabs K H' → H r = none → r ∉ m'.av a → H' r = some (.lst ((Kvg9Neutral.resultRow out.2).map V.int)) → Q (.ref r) H') (hl : vs.length ≤ sizeLine := by rw [sizeLine_eq]; simp only [List.length_cons, List.length_nil]; decide) : vs.length ≤ sizeLine ∧ ∀ p, H1 p = none → Q (.ref p) (upd H1 p (.lst vs)) := by
  refine ⟨hl, fun p np => ?_⟩
  have f2 := f.trans (Fr.of_same (a := a) (m := m1) (same_upd (o := .lst vs) np))
  exact k p _ m1 (by rw [e1]; exact S1.same (same_upd np)) f2.t (f2.tabs S t) (f.al p np) (StoreG.new_off (H' := H1) S1 np) (by rw [e2, upd_same, ev])
end
end Pv
end
section
set_option Elab.async false
set_option linter.all false
set_option maxRecDepth 100000
set_option maxHeartbeats 2000000
namespace Pv
open PySem PySem.Spec PyProof.Rows L2
open PySem.W (Codec OpenSpec WData)
/-- what is tracked at the start: the arguments' objects, the empty tables -/
structure Open0 (T : List Addr) (H0 H : Hp) : Prop where
  same : Same H0 H
  tabs : ∀ b ∈ T, H b = some (.tbl #[])
  rest : ∀ b, b ∉ T → H b = H0 b
  frz : ∀ b, H0 b = none ∨ ∃ o u, H0 b = some (.frz o u)
/-- the call of the asked def, tables of code objects standing by -/
theorem call_tabs {P : Program} {w : World} {K : PySem.W.Frag} {mg mb : Str → Option Value} {n : Nat} {at_ : Addr} {fd : FuncData} {pars : List Str} {promise : Sp} {now : Shared} {given : List Value} {data : List WData} {records : PySem.W.WRecords} {cl : Str → Option Addr} {want : WData} {tabs : List (Addr × Addr)}
    (kin : K.In now.heap) (gl : now.heap.Ns mainGlobals mg) (bu : now.heap.Ns builtinsNs mb) (bb : ∀ x : Str, x ≠ "__name__" → mb x = bootBuiltins x) (nolim : now.heap.NoLimit) (nogen : now.gens = #[])
    (tE : ∀ p ∈ tabs, now.heap.get? p.2 = some { cls := .none, data := .fields #[] }) (tO : ∀ p ∈ tabs, K.lookup p.2 = none) (tH : ∀ p ∈ tabs, PySem.W.CodeHd now.heap p.1 p.2)
    (bmain : ∃ (bm : Addr) (o : Obj), mg "__builtins__" = some (.ref bm) ∧ bm ≠ builtinsNs ∧ now.heap.get? bm = some o ∧ o.cls = .type "module" ∧ o.dict = some builtinsNs ∧ o.data = .plain)
    (well : PySem.W.WellAll w.params now.heap given data) (plain : plWs data = true) (small : ∀ d ∈ data, d.weight ≤ 1048576) (room : Room n callerA)
    (keeps : ∀ base : Heap, (∀ p ∈ tabs, LamX.TabB base mg p.1 p.2) → FnOk P w K mg base CX0 n at_ fd pars promise) (binds : ∀ (s : Shared) (us : List Value), us.length = pars.length → BindsTo s fd ⟨us, []⟩ (pars.zip us)) (many : data.length = pars.length)
    (ask : ∀ (H0 H : Hp) (xs : List V), Open0 (tabs.map (·.2)) H0 H → DwAll K H0 xs data → promise xs H (fun v H' => Dw K H' v want) E0) :
    codeAny (model P w) callerA (.call (.ref at_) ⟨given, []⟩) (fun r s' => ∃ u as, r = .ok (.ret u) ∧ PySem.W.ReadsW records cl s'.heap u want as ∧ OldK now.heap s'.heap ∧ s'.os = now.os ∧ AllBare s'.gens) now := by
  obtain ⟨A, okA, argA⟩ := area_all data given well plain small
  have isT : ∀ b ∈ tabs.map (·.2), now.heap.get? b = some { cls := .none, data := .fields #[] } := fun b hb => by
    obtain ⟨p, hp, rfl⟩ := List.mem_map.mp hb
    exact tE p hp
  have offT : ∀ b ∈ tabs.map (·.2), argH K now.heap A b = none := fun b hb => by
    cases q : argH K now.heap A b with
    | none => rfl
    | some u =>
      obtain ⟨_, vs, _, _, ⟨e, _⟩ | ⟨e, _⟩⟩ := argH_is argA q <;>
      · rw [isT b hb] at e
        have z : Data.fields #[] = Data.seq vs.toArray _ := congrArg Obj.data (Option.some.inj e)
        cases z
  have only0 := argH_only (K := K) argA
  have ok0 : HOk P w (argH K now.heap A) now.heap := argH_ok argA
  have dw0 := dw_all kin argA data given well plain okA
  have outK : ∀ b u, argH K now.heap A b = some u → K.lookup b = none := fun b u q => (argH_is argA q).1
  have dictFree : ∀ {b : Addr} {o : Obj}, now.heap.get? b = some o → (∀ vs k, o.data ≠ .seq vs k) → argH K now.heap A b = none := fun {b o} e nd => by
    cases q : argH K now.heap A b with
    | none => rfl
    | some u =>
      obtain ⟨_, vs, _, _, ⟨e2, _⟩ | ⟨e2, _⟩⟩ := argH_is argA q <;>
      · rw [e2] at e
        cases e
        exact absurd rfl (nd vs.toArray _)
  have vals0 := vals_toV okA
  generalize argH K now.heap A = H0 at only0 ok0 dw0 outK offT dictFree
  let H : Hp := fun b => if b ∈ tabs.map (·.2) then some (.tbl #[]) else H0 b
  have inT : ∀ b ∈ tabs.map (·.2), H b = some (.tbl #[]) := fun b hb => if_pos hb
  have unT : ∀ b, b ∉ tabs.map (·.2) → H b = H0 b := fun b hb => if_neg hb
  have opened : Open0 (tabs.map (·.2)) H0 H := ⟨fun b o e => by
    by_cases hb : b ∈ tabs.map (·.2)
    · rw [offT b hb] at e; cases e
    · rw [unT b hb]; exact e, inT, unT, only0⟩
  have okH : HOk P w H now.heap := fun b u e => by
    by_cases hb : b ∈ tabs.map (·.2)
    · rw [inT b hb] at e
      cases e
      exact isT b hb
    · rw [unT b hb] at e
      rcases only0 b with z | ⟨o, x, z⟩
      · rw [z] at e; cases e
      · refine (ok0 b u e).stay (fun _ _ _ q => q) (fun d q => ?_) fun d xs q => ?_
        · rcases only0 d with z | ⟨_, _, z⟩ <;> rw [z] at q <;> cases q
        · rcases only0 d with z | ⟨_, _, z⟩ <;> rw [z] at q <;> cases q
  have free : ∀ {b : Addr} {o : Obj}, now.heap.get? b = some o → (∀ vs k, o.data ≠ .seq vs k) → o.data ≠ .fields #[] → H b = none := fun {b o} e n1 n2 => by
    by_cases hb : b ∈ tabs.map (·.2)
    · rw [isT b hb] at e
      cases e
      exact absurd rfl n2
    · rw [unT b hb]
      exact dictFree e n1
  have freeD : ∀ {b : Addr} {o : Obj} {es : Array DictEntry} {ep : Nat}, now.heap.get? b = some o → o.data = .dict es ep → H b = none := fun {b o es ep} e d =>
    free e (fun vs k z => by rw [d] at z; cases z) (fun z => by rw [d] at z; cases z)
  have base_of : ∀ {b : Addr} {o : Obj}, now.heap.get? b = some o → H b = none → (hidT now.heap H).get? b = some o := fun e f => hidT_get e f
  have nsH : ∀ {b : Addr} {m : Str → Option Value}, now.heap.Ns b m → (hidT now.heap H).Ns b m := fun {b m} ⟨o, es, ep, e, d, r⟩ => ⟨o, es, ep, base_of e (freeD e d), d, r⟩
  have notT : ∀ b o, K.lookup b = some o → b ∉ tabs.map (·.2) := fun b o e hb => by
    obtain ⟨p, hp, rfl⟩ := List.mem_map.mp hb
    rw [tO p hp] at e
    cases e
  have kinH : K.In (hidT now.heap H) := fun b o e => base_of (kin b o e) (by
    rw [unT b (notT b o e)]
    cases q : H0 b with
    | none => rfl
    | some u => rw [outK b u q] at e; cases e)
  have mod : L2.Mod K mg (hidT now.heap H) := ⟨kinH, nsH gl, ⟨mb, nsH bu, bb⟩, let ⟨mc, h1, h2⟩ := nolim; ⟨mc, nsH h1, h2⟩⟩
  have TB : ∀ p ∈ tabs, LamX.TabB (hidT now.heap H) mg p.1 p.2 := fun p hp => by
    have e := tE p hp
    refine ⟨?_, ?_, fun z => ?_⟩
    · obtain ⟨o, us, file, tf, flags, tg, inF, text, tt, e1, r1, r2, r3, r⟩ := tH p hp
      refine ⟨o, us, file, tf, flags, tg, inF, text, tt, base_of e1 (free e1 (fun vs k z => by rw [r2] at z; cases z) fun z => ?_), r1, r2, r3, r⟩
      rw [r2] at z
      cases z
      simp at r3
    · obtain ⟨bm, o, b1, b2, b3, b4, b5, b6⟩ := bmain
      refine ⟨bm, o, b1, b2, fun q => ?_, fun q => ?_, base_of b3 (free b3 (fun vs k z => by rw [b6] at z; cases z) fun z => by rw [b6] at z; cases z), b4, b5, b6⟩
      · obtain ⟨o2, es, ep, e2, hd, _⟩ := gl
        rw [q, e2] at b3
        cases b3
        rw [hd] at b6
        cases b6
      · rw [q, e] at b3
        cases b3
        cases b6
    · obtain ⟨o2, es, ep, e2, hd, _⟩ := gl
      rw [z, e] at e2
      cases e2
      cases hd
  have e0 : Env0 P w K mg (hidT now.heap H) callerA [] now H := ⟨rfl, mod, fun b o e => of_hidT e, Nat.le_of_eq (hidT_size _ _), trivial, fun b hb => absurd (show b ∈ ([] : List Addr) from hb) (by simp), okH, .of_eq nogen⟩
  have many2 : given.length = pars.length := (wellAll_len well).trans many
  refine codeAny_mono ((keeps _ TB).run callerA [] now H ⟨given, []⟩ given (given.map toV) _ _ room e0 (binds now given many2) vals0 (ask H0 H _ opened dw0)) fun r s' x => ?_
  match r, x with
  | .error _, x => exact (show False from x).elim
  | .ok .next, x => exact (show False from x).elim
  | .ok .brk, x => exact (show False from x).elim
  | .ok .cont, x => exact (show False from x).elim
  | .ok (.ret u), x =>
    obtain ⟨v, H', os, bare, un, ok', rel, q⟩ := x
    have kept : ∀ b o, b ∉ tabs.map (·.2) → now.heap.get? b = some o → s'.heap.get? b = some o := fun b o nb e => by
      rcases only0 b with z | ⟨ob, x2, z⟩
      · exact un.keep b o e ((unT b nb).trans z) (fun q => absurd (show b ∈ ([] : List Addr) from q) (by simp)) (by simp)
      · have z1 : H b = some (.frz ob x2) := (unT b nb).trans z
        have a1 := (okH b _ z1).1
        have a2 := (ok' b _ (un.frzs b ob _ z1)).1
        rw [a1] at e
        rw [← e]
        exact a2
    have grown : ∀ p ∈ tabs, ∃ more : Array Value, s'.heap.get? p.2 = some { cls := .none, data := .fields more } := fun p hp => by
      obtain ⟨more, z⟩ := un.tbls p.2 #[] (inT p.2 (List.mem_map_of_mem hp))
      exact ⟨_, ok' p.2 _ z⟩
    have kin' : K.In s'.heap := fun b o e => kept b o (notT b o e) (kin b o e)
    obtain ⟨as, rd⟩ := Dw.reads (R := records) (cl := cl) ok' kin' want v u q rel
    refine ⟨u, as, rfl, rd, ⟨fun b o e => ?_, fun b o e => ?_⟩, os, bare⟩
    · by_cases hb : b ∈ tabs.map (·.2)
      · obtain ⟨p, hp, rfl⟩ := List.mem_map.mp hb
        obtain ⟨more, hm⟩ := grown p hp
        rw [tE p hp] at e
        cases e
        exact .inr (.inl ⟨((tH p hp).tab (tE p hp)).isCodeTable, rfl, #[], more, rfl, by rw [Array.empty_append]; exact hm⟩)
      · exact .inl (kept b o hb e)
    · by_cases hb : b ∈ tabs.map (·.2)
      · obtain ⟨p, hp, rfl⟩ := List.mem_map.mp hb
        obtain ⟨more, hm⟩ := grown p hp
        exact ⟨_, hm⟩
      · exact ⟨o, kept b o hb e⟩
/-- the tables of the two defs that make a function -/
def tabsOf (K : PySem.W.Frag) : List (Addr × Addr) := tf.map (He.cT K)
/-- the start's heap: what was handed in, known to its object; the tables, empty -/
def At0 (K : PySem.W.Frag) (H : Hp) : Prop := (∀ p ∈ tf, H (He.cT K p).2 = some (.tbl #[])) ∧ ∀ b, H b = none ∨ (∃ o u, H b = some (.frz o u)) ∨ ∃ p ∈ tf, b = (He.cT K p).2
def spAns (K : PySem.W.Frag) : Sp := fun vs H Q _ => ∃ (a : Addr) (ns : List Int), vs = [.ref a] ∧ SqL K H a (ns.map V.int) ∧ ns.length ≤ 16384 ∧ At0 K H ∧ PyKvg9.answers_asked ns = true ∧
  ∀ (H' : Hp) (p : Addr), H' p = some (.lst ((PyKvg9.answers ns).map V.int)) → Q (.ref p) H'
theorem said : R.wellSaid = true := by decide +kernel
/-- what is left to be shown: the def that the row asks keeps its promise at level n, whatever the top has left -/
def Kept (n : Nat) : Prop := ∀ (P : Program) (w : World) (K : PySem.W.Frag) (mg : Str → Option Value), Tx K mg → Ok P w K mg ("answers", none) ["calls"] n (spAns K)
theorem walk_tabs {n : Nat} {view : Program} {names : List Str} {XP : (Str → Option Value) → Heap → Prop} {rec_ : DefRec} (nm : rec_.name = ("answers" : Str)) (noDefaults : rec_.params.defaults = []) (room : Room n callerA) (kept : Kept n) :
    PySem.W.WalkOS view names XP (fun _ h => ∃ K : PySem.W.Frag, K.In h ∧ Left h K) R rec_ [] (fun f vs => PySem.call f vs) := by
  intro w start_ now mg mb ground ⟨K, kin, left⟩ at_ ob pm cd doc dV kV _ _ _ _ named noGens args vals addrs pre lay _ well _
  obtain ⟨request, read_, meant⟩ := PySem.W.os_pre_some pre
  obtain ⟨rfl, inside⟩ := Codec.encAll_of_decAll R.args args request read_
  have T : Tx K mg := ⟨⟨now.heap, kin, ground.T.g⟩, left.says, left.more⟩
  rw [nm] at named
  have here : He.ga K "answers" = at_ := by
    have e := (T.glo 76 (x := "answers")).symm.trans named
    injection e with e
    injection e
  subst here
  obtain ⟨⟨fd, G, binds⟩, _⟩ := kept R.prog w K mg T
  have tm : ∀ p ∈ tabsOf K, ∃ q ∈ tf, p = He.cT K q := fun p hp => by
    obtain ⟨q, hq, e⟩ := List.mem_map.mp hp
    exact ⟨q, hq, e.symm⟩
  have due := call_tabs (records := []) (cl := classAt start_.heap) (want := R.ret.enc (Codec.app R.args R.f request)) (tabs := tabsOf K) (promise := spAns K) (n := n) (pars := ["calls"]) kin ground.T.g ground.T.b ground.T.builtins ground.T.nolimit noGens
    (fun p hp => by obtain ⟨q, hq, rfl⟩ := tm p hp; exact left.empty q hq) (fun p hp => by obtain ⟨q, hq, rfl⟩ := tm p hp; exact left.out q hq) (fun p hp => by obtain ⟨q, hq, rfl⟩ := tm p hp; exact PySem.W.codeHd_of_K kin (left.hd q hq)) ground.T.bmain
    well (pl_encAll _ _) (layable_weight lay) room (fun base tb => G base fun p hp => tb _ (List.mem_map_of_mem hp)) binds (encAll_len _ _) (fun H0 H vs o data => by
      cases data with
      | cons one none_ =>
        cases none_
        cases one with
        | lst seq each =>
          have e := L2.ints_dw request.1 _ each
          subst e
          have q : ((Codec.inLen 0 16384 request.1 && request.1.all (Codec.inInt (-2147483648) 4294967295)) && true) = true := inside
          rw [Bool.and_eq_true, Bool.and_eq_true] at q
          refine ⟨_, request.1, rfl, o.same.seq seq, (Codec.inNat_iff.mp q.1.1).2, ⟨fun p hp => o.tabs _ (List.mem_map.mpr ⟨_, List.mem_map_of_mem hp, rfl⟩), fun b => ?_⟩, meant, fun H' p hp => .lst (L2.SqL.of hp) (L2.dw_ints _)⟩
          by_cases hb : b ∈ (tabsOf K).map (·.2)
          · obtain ⟨p, hp, rfl⟩ := List.mem_map.mp hb
            obtain ⟨q, hq, rfl⟩ := tm p hp
            exact .inr (.inr ⟨q, hq, rfl⟩)
          · rw [o.rest b hb]
            exact (o.frz b).imp id .inl)
  refine PySem.W.enter_call (codeAny_mono due fun out last told => ?_)
  obtain ⟨u, more, rfl, t1, t2, t3, t4⟩ := told
  refine ⟨.inl ⟨u, _, more, rfl, fun _ => rfl, t1, ?_, fun z => ?_⟩, t2, t3, t4⟩
  · exact (OpenSpec.post_iff said inside _ _).mpr rfl
  · cases (show false = true from z)
end Pv
open PySem PySem.W PySem.Calls PyProof.Rows
theorem Pv.holds_of {n : Nat} (hn : L2.Room n callerA) (kept : Pv.Kept n) : PySem.Challenge.rw_plotversions_s01_answers.Holds := by
  w_on
  refine HandSHeadRun.head_spec (r := Pv.R) (q := Pv.qv) (H := Pv.hk) (ob := Pv.ob) (M := 8000) (loose := Pv.loose) (d := HandSHeadRun.topDef Pv.R.prog 140) (kwd := []) Pv.ob_eq
    (by kernel_rfl) (fun s => by kernel_rfl) Pv.run (by kernel_rfl) (by kernel_rfl) (by kernel_rfl) os_shapes Pv.said (by decide +kernel) ⟨rfl, rfl, rfl, rfl, rfl, by decide +kernel⟩ ?hw ?hc
  case hw => exact ⟨[.list [.int 0, .int 0]], by decide +kernel, by decide +kernel⟩
  case hc => exact Pv.walk_tabs (by kernel_rfl) (by kernel_rfl) hn kept
end
section
set_option Elab.async false
set_option linter.all false
set_option maxRecDepth 100000
set_option maxHeartbeats 2000000
namespace Pv
open PySem PySem.Spec PyProof.Rows L2 Kvg9
open L2 (Dp DpAll)
variable {P : Program} {w : World} {K : PySem.W.Frag} {mg : Str → Option Value}
/-- a test of one number -/
def spTest (t : Int → Bool) : Sp := fun vs H Q _ => ∃ n, vs = [.int n] ∧ Q (.bl (t n)) H
def isCoord (n : Int) : Bool := decide (-1000000 ≤ n) && decide (n ≤ 1000000)
theorem sc_is_attribute : FnScope ["value"] ["value"] (defScope s_is_attribute) := ⟨rfl, rfl, rfl, by decide +kernel, rfl, by decide +kernel, by decide +kernel⟩
theorem ok_is_attribute (T : Tx K mg) : Ok P w K mg ("is_attribute", none) ["value"] 1 (spTest isAttribute) := by
  refine T.ok (i := 26) (d := d_is_attribute) rfl rfl sc_is_attribute (fun vs H Q E h => ?_) (fun _ _ _ _ _ _ us hl => match us, hl with | [_], _ => rfl) (fun base tb cdv A outer s H vs Q E hr h => ?_)
  · obtain ⟨n, rfl, _⟩ := h
    rfl
  · obtain ⟨n, rfl, k⟩ := h
    have hu := hu_of hr
    refine ⟨_, (pss_one (ps_ret (pe_chain op_le op_le (pe_un un_neg (pe_gint (T.int 100) rfl)) (pv 0) (pe_gint (T.int 100) rfl)))), ?_⟩
    have e : isAttribute n = if decide (-1000000000 ≤ n) = true then decide (n ≤ 1000000000) else false := by
      unfold isAttribute; cases decide (-1000000000 ≤ n) <;> rfl
    rw [e] at k
    refine ⟨_, rfl, _, rfl, _, _, rfl, rfl, _, rfl, ?_⟩
    split
    · rename_i q
      rw [if_pos q] at k
      exact ⟨_, _, rfl, rfl, k⟩
    · rename_i q
      rw [if_neg q] at k
      exact k
theorem sc_is_coordinate : FnScope ["value"] ["value"] (defScope s_is_coordinate) := ⟨rfl, rfl, rfl, by decide +kernel, rfl, by decide +kernel, by decide +kernel⟩
theorem ok_is_coordinate (T : Tx K mg) : Ok P w K mg ("is_coordinate", none) ["value"] 1 (spTest isCoord) := by
  refine T.ok (i := 27) (d := d_is_coordinate) rfl rfl sc_is_coordinate (fun vs H Q E h => ?_) (fun _ _ _ _ _ _ us hl => match us, hl with | [_], _ => rfl) (fun base tb cdv A outer s H vs Q E hr h => ?_)
  · obtain ⟨n, rfl, _⟩ := h
    rfl
  · obtain ⟨n, rfl, k⟩ := h
    have hu := hu_of hr
    refine ⟨_, (pss_one (ps_ret (pe_chain op_le op_le (pe_un un_neg (pe_gint (T.int 101) rfl)) (pv 0) (pe_gint (T.int 101) rfl)))), ?_⟩
    have e : isCoord n = if decide (-1000000 ≤ n) = true then decide (n ≤ 1000000) else false := by
      unfold isCoord; cases decide (-1000000 ≤ n) <;> rfl
    rw [e] at k
    refine ⟨_, rfl, _, rfl, _, _, rfl, rfl, _, rfl, ?_⟩
    split
    · rename_i q
      rw [if_pos q] at k
      exact ⟨_, _, rfl, rfl, k⟩
    · rename_i q
      rw [if_neg q] at k
      exact k
theorem map_all (l : List Int) (t : Int → Bool) : (l.map t).all id = l.all t := by
  rw [List.all_map]; rfl
def spAreAttr (K : PySem.W.Frag) : Sp := fun vs H Q _ => ∃ (a : Addr) (l : List Int) (k : Int), vs = [.ref a, .int k] ∧ SqL K H a (l.map V.int) ∧ l.length ≤ 1000 ∧ ∀ H', Same H H' → Q (.bl (decide ((l.length : Int) = k) && l.all isAttribute)) H'
theorem sc_are_attributes : FnScope ["values", "attribute_count", "value"] ["values", "attribute_count"] (defScope s_are_attributes) := ⟨rfl, rfl, rfl, by decide +kernel, rfl, by decide +kernel, by decide +kernel⟩
theorem ok_are_attributes (T : Tx K mg) : Ok P w K mg ("are_attributes", none) ["values", "attribute_count"] 2 (spAreAttr K) := by
  refine T.ok (i := 28) (d := d_are_attributes) rfl rfl sc_are_attributes (fun vs H Q E h => ?_) (fun _ _ _ _ _ _ us hl => match us, hl with | [_, _], _ => rfl) (fun base tb cdv A outer s H vs Q E hr h => ?_)
  · obtain ⟨a, l, k, rfl, _⟩ := h
    rfl
  · obtain ⟨a, l, k, rfl, hl, hn, kk⟩ := h
    have hu := hu_of hr
    refine ⟨_, (pss_one (ps_ret (pe_and (pe_cmpR op_eq (pe_callB (kLen (K := K) rfl) (by rfl) (T.free 87) PySem.boot_len (pa_cons (pv 0) pa_nil)) (pv 1) (nomark _)) (pe_one (pe_callB (kAll (K := K) rfl rfl) (by rfl) (T.free 83) (by decide +kernel) (pa_cons (pe_lc (own := [("value", 2)]) rfl sc_are_attributes.nd (kPiL (K := K) rfl (pv 0)) (blkOk_by (N := ["values", "attribute_count", "value"]) (sc := defScope s_are_attributes) (by decide +kernel)) (fun _ _ _ _ _ => (pg_name (i := 2) sc_are_attributes.nd rfl (by first | exact Or.inl rfl | exact Or.inr rfl))) (fun _ _ _ _ _ => pts_nil) (fun _ _ _ _ _ => (pe_callO (ok_is_attribute T) tb (T.glo 26) hr rfl (pa_cons (pv 2) pa_nil)))) pa_nil)))))), ?_⟩
    refine ⟨_, rfl, a, _, rfl, .inl hl, _, rfl, rfl, _, rfl, ?_⟩
    by_cases q : (l.length : Int) = k
    · rw [if_pos (by rw [decide_eq_true_eq, List.length_map]; rw [q])]
      rw [decide_eq_true q] at kk
      refine ⟨_, rfl, a, rfl, ⟨_, hl⟩, fun D nD => lc_list (K := K) (a := a) (xs := l.map V.int) (LcP H D (RB (l.map isAttribute))) (LcP.start nD rfl) (fun i H' _ p => p.1.seq hl) ?_ ?_⟩
      · rintro i x H1 hx ⟨s, acc, hD, ha, r⟩
        obtain ⟨n, e, rfl⟩ := nth_int hx
        refine ⟨rfl, ?_⟩
        refine ⟨_, rfl, n, rfl, ?_⟩
        exact LcP.put (n := 1000) nD s hD ha (Same.refl _) (Nat.lt_of_lt_of_le (List.getElem?_eq_some_iff.mp e).1 hn) (RB.next r (by rw [List.getElem?_map, e]; rfl))
      · rintro H1 ⟨s, acc, hD, ha, r⟩
        refine ⟨D, l.map isAttribute, rfl, SqL.of ?_, ?_⟩
        · rw [hD, show acc = _ from r, List.length_map, List.take_of_length_le (by simp)]
        · rw [map_all]
          exact kk H1 s
    · rw [if_neg (by rw [decide_eq_true_eq, List.length_map]; intro z; exact q (V.int.inj z))]
      rw [decide_eq_false q] at kk
      exact kk H (Same.refl H)
def spAreVert (K : PySem.W.Frag) : Sp := fun vs H Q _ => ∃ (a : Addr) (l : List Int), vs = [.ref a] ∧ SqL K H a (l.map V.int) ∧ l.length ≤ 1000 ∧ ∀ H', Same H H' → Q (.bl (decide (l.length % 2 = 0) && decide (1 ≤ l.length / 2) && decide (l.length / 2 ≤ 12) && l.all isCoord)) H'
theorem sc_are_vertices : FnScope ["coordinates", "value"] ["coordinates"] (defScope s_are_vertices) := ⟨rfl, rfl, rfl, by decide +kernel, rfl, by decide +kernel, by decide +kernel⟩
theorem ok_are_vertices (T : Tx K mg) : Ok P w K mg ("are_vertices", none) ["coordinates"] 2 (spAreVert K) := by
  refine T.ok (i := 29) (d := d_are_vertices) rfl rfl sc_are_vertices (fun vs H Q E h => ?_) (fun _ _ _ _ _ _ us hl => match us, hl with | [_], _ => rfl) (fun base tb cdv A outer s H vs Q E hr h => ?_)
  · obtain ⟨a, l, rfl, _⟩ := h
    rfl
  · obtain ⟨a, l, rfl, hl, hn, kk⟩ := h
    have hu := hu_of hr
    refine ⟨_, (pss_cons (ps_if (pt_cmpR op_eq (pe_op op_mod (pe_callB (kLen (K := K) rfl) (by rfl) (T.free 87) PySem.boot_len (pa_cons (pv 0) pa_nil)) pe_int) pe_int (nomark _))
          (pss_one (ps_ret pe_bl)) pss_nil)
        (pss_cons (ps_if (pt_not (pt_chain op_le op_le pe_int (pe_op op_fdiv (pe_callB (kLen (K := K) rfl) (by rfl) (T.free 87) PySem.boot_len (pa_cons (pv 0) pa_nil)) pe_int) (pe_gint (T.int 102) rfl)))
          (pss_one (ps_ret pe_bl)) pss_nil)
        (pss_one (ps_ret (pe_callB (kAll (K := K) rfl rfl) (by rfl) (T.free 83) (by decide +kernel) (pa_cons (pe_lc (own := [("value", 1)]) rfl sc_are_vertices.nd (kPiL (K := K) rfl (pv 0)) (blkOk_by (N := ["coordinates", "value"]) (sc := defScope s_are_vertices) (by decide +kernel)) (fun _ _ _ _ _ => (pg_name (i := 1) sc_are_vertices.nd rfl (by first | exact Or.inl rfl | exact Or.inr rfl))) (fun _ _ _ _ _ => pts_nil) (fun _ _ _ _ _ => (pe_callO (ok_is_coordinate T) tb (T.glo 27) hr rfl (pa_cons (pv 1) pa_nil)))) pa_nil)))))), ?_⟩
    refine ⟨_, rfl, a, _, rfl, .inl hl, _, _, rfl, rfl, (by show (0 : Int) < 2; decide), rfl, _, rfl, ?_⟩
    rw [List.length_map]
    by_cases q : l.length % 2 = 0
    · rw [decide_eq_true q, Bool.true_and] at kk
      refine ite2 (fun z => ?_) (fun _ => ?_)
      · exfalso
        have := V.int.inj (of_decide_eq_true z)
        omega
      refine ⟨_, rfl, a, _, rfl, .inl hl, _, _, rfl, rfl, ⟨by decide, by decide⟩, _, _, rfl, rfl, _, rfl, ?_⟩
      rw [List.length_map]
      have ed : ((l.length : Int) / 2) = ((l.length / 2 : Nat) : Int) := by omega
      rw [ed]
      have comp : ∀ b : Bool, (decide (1 ≤ l.length / 2) && decide (l.length / 2 ≤ 12)) = b → Q (.bl false) H = Q (.bl false) H := fun _ _ => rfl
      by_cases q1 : 1 ≤ l.length / 2
      · rw [decide_eq_true q1, Bool.true_and] at kk
        rw [if_pos (decide_eq_true (show (1 : Int) ≤ ((l.length / 2 : Nat) : Int) by omega))]
        refine ⟨_, _, rfl, rfl, _, rfl, ?_⟩
        show if (!decide ((l.length : Int) / 2 ≤ 12)) = true then _ else _
        by_cases q2 : l.length / 2 ≤ 12
        · rw [decide_eq_true q2, Bool.true_and] at kk
          rw [if_neg (by rw [decide_eq_true (show (l.length : Int) / 2 ≤ 12 by omega)]; simp)]
          refine ⟨_, rfl, a, rfl, ⟨_, hl⟩, fun D nD => lc_list (K := K) (a := a) (xs := l.map V.int) (LcP H D (RB (l.map isCoord))) (LcP.start nD rfl) (fun i H' _ p => p.1.seq hl) ?_ ?_⟩
          · rintro i x H1 hx ⟨s, acc, hD, ha, r⟩
            obtain ⟨n, e, rfl⟩ := nth_int hx
            refine ⟨rfl, ?_⟩
            refine ⟨_, rfl, n, rfl, ?_⟩
            exact LcP.put (n := 1000) nD s hD ha (Same.refl _) (Nat.lt_of_lt_of_le (List.getElem?_eq_some_iff.mp e).1 hn) (RB.next r (by rw [List.getElem?_map, e]; rfl))
          · rintro H1 ⟨s, acc, hD, ha, r⟩
            refine ⟨D, l.map isCoord, rfl, SqL.of ?_, ?_⟩
            · rw [hD, show acc = _ from r, List.length_map, List.take_of_length_le (by simp)]
            · rw [map_all]
              exact kk H1 s
        · rw [decide_eq_false q2] at kk
          rw [if_pos (by rw [decide_eq_false (show ¬ (l.length : Int) / 2 ≤ 12 by omega)]; rfl)]
          exact kk H (Same.refl H)
      · rw [decide_eq_false q1] at kk
        rw [if_neg (by rw [decide_eq_true_eq]; omega)]
        refine ⟨_, rfl, ?_⟩
        exact kk H (Same.refl H)
    · rw [decide_eq_false q] at kk
      refine ite2 (fun z => ?_) (fun z => ?_)
      · exact kk H (Same.refl H)
      · exfalso
        refine z (decide_eq_true (congrArg V.int ?_))
        show (l.length : Int) % 2 = 1
        omega
/-! ### features -/
theorem pairs_len : ∀ {l : List Int}, (Kvg9.pairsOf l).length = l.length / 2
  | [] => by simp [Kvg9.pairsOf]
  | [_] => by simp [Kvg9.pairsOf]
  | x :: y :: l => by
    show (Kvg9.pairsOf l).length + 1 = (l.length + 1 + 1) / 2
    rw [pairs_len]
    omega
theorem pairs_at : ∀ {l : List Int} {i : Nat}, 2 * i + 1 < l.length → ∃ x y, l[2 * i]? = some x ∧ l[2 * i + 1]? = some y ∧ (Kvg9.pairsOf l)[i]? = some (x, y)
  | [], i, h => by simp at h
  | [_], i, h => by simp at h
  | x :: y :: l, 0, _ => ⟨x, y, rfl, rfl, rfl⟩
  | x :: y :: l, i + 1, h => by
    obtain ⟨a, b, h1, h2, h3⟩ := pairs_at (l := l) (i := i) (by simp at h; omega)
    exact ⟨a, b, h1, h2, h3⟩
def spMake (K : PySem.W.Frag) : Sp := fun vs H Q _ => ∃ (a b : Addr) (la lc : List Int), vs = [.ref a, .ref b] ∧ SqL K H a (la.map V.int) ∧ SqL K H b (lc.map V.int) ∧ lc.length % 2 = 0 ∧ lc.length ≤ 1000 ∧ ∀ H' x n, Same H H' → Fea K H' x ⟨n, la, Kvg9.pairsOf lc⟩ → Q x H'
theorem sc_make_feature : FnScope ["attributes", "coordinates", "vertices", "at"] ["attributes", "coordinates"] (defScope s_make_feature) := ⟨rfl, rfl, rfl, by decide +kernel, rfl, by decide +kernel, by decide +kernel⟩
theorem ok_make_feature (T : Tx K mg) : Ok P w K mg ("make_feature", none) ["attributes", "coordinates"] 1 (spMake K) := by
  refine T.ok (i := 30) (d := d_make_feature) rfl rfl sc_make_feature (fun vs H Q E h => ?_) (fun _ _ _ _ _ _ us hl => match us, hl with | [_, _], _ => rfl) (fun base tb cdv A outer s H vs Q E hr h => ?_)
  · obtain ⟨a, b, la, lc, rfl, _⟩ := h
    rfl
  · obtain ⟨a, b, la, lc, rfl, ha, hb, he, hn, k⟩ := h
    have hu := hu_of hr
    refine ⟨_, (pss_cons (ps_setLc (i := 2) (own := [("at", 3)]) rfl sc_make_feature.nd rfl rfl (sw_true rfl rfl rfl (by decide +kernel)) (pi_range3 rfl (T.free 91) (pa_cons pe_int (pa_cons (pe_callB (kLen (K := K) rfl) (by rfl) (T.free 87) PySem.boot_len (pa_cons (pv 1) pa_nil)) (pa_cons pe_int pa_nil)))) (blkOk_by (N := ["attributes", "coordinates", "vertices", "at"]) (sc := defScope s_make_feature) (by decide +kernel)) (fun _ _ _ _ _ => (pg_name (i := 3) sc_make_feature.nd rfl (by first | exact Or.inl rfl | exact Or.inr rfl))) (fun _ _ _ _ _ => pts_nil) (fun _ _ _ _ _ => (pe_tup (pa_cons (pe_ix (kIxL (K := K) rfl) (pv 1) (pv 3) (fun _ _ => rfl)) (pa_cons (pe_ix (kIxL (K := K) rfl) (pv 1) (pe_op op_add (pv 3) pe_int) (fun _ _ => rfl)) pa_nil)))))
        (pss_one (ps_ret (pe_tup (pa_cons (pe_callTy (kToT (K := K) rfl) (by rfl) (T.free 94) (by decide +kernel) (pa_cons (pv 0) pa_nil)) (pa_cons (pe_callTy (kToT (K := K) rfl) (by rfl) (T.free 94) (by decide +kernel) (pa_cons (pv 2) pa_nil)) pa_nil)))))), ?_⟩
    have hR : RgC 0 ((lc.map V.int).length : Int) 2 (lc.length / 2) := by
      rw [List.length_map]
      refine ⟨by decide, by decide, ?_, ?_⟩
      · unfold Builtin.Range.small Builtin.Range.rangeSize
        rw [if_pos (show (2 : Int) > 0 by decide)]
        unfold Builtin.Range.rangeFitsLong
        rw [if_pos (show (2 : Int) > 0 by decide)]
        simp only [Bool.and_eq_true, Bool.or_eq_true, decide_eq_true_eq, beq_iff_eq]
        omega
      · unfold Builtin.Range.rangeSize
        rw [if_pos (by decide)]
        split <;> omega
    refine ⟨_, rfl, b, _, rfl, .inl hb, 0, _, 2, lc.length / 2, rfl, hR, fun D nD => lc_any (n := lc.length / 2) (LcP H D (RD K ((Kvg9.pairsOf lc).map dV))) (LcP.start nD .nil) (fun i H1 hi p => hi) (fun H1 p => Nat.le_refl _) ?_ ?_⟩
    · rintro i x H1 H1' hi ⟨s, acc, hD, hA, r⟩ ⟨rfl, rfl⟩
      obtain ⟨x, y, e1, e2, e3⟩ := pairs_at (l := lc) (i := i) (by omega)
      refine ⟨rfl, ?_⟩
      have q1 : (lc.map V.int)[2 * i]? = some (V.int x) := by rw [List.getElem?_map, e1]; rfl
      have q2 : (lc.map V.int)[2 * i + 1]? = some (V.int y) := by rw [List.getElem?_map, e2]; rfl
      refine ⟨_, rfl, _, rfl, b, _, _, _, rfl, rfl, s.seq hb, (by rw [show (0 : Int) + (i : Nat) * 2 = ((2 * i : Nat) : Int) by omega]; exact atI_nat q1), _, rfl, _, rfl, _, _, rfl, rfl, b, _, _, _, rfl, rfl, s.seq hb,
        (by rw [show (0 : Int) + (i : Nat) * 2 + 1 = ((2 * i + 1 : Nat) : Int) by omega]; exact atI_nat q2), (by show 2 ≤ sizeLine; decide), fun p np => ?_⟩
      have nDp : D ≠ p := ne_of_none hD np
      refine LcP.put (n := 1000) nD s hD hA (same_upd np) (by omega) ?_
      exact RD.next (noLs_map (e := dV) (fun _ => rfl) _) r ((Tup.of (same_upd np)).trans (tup_upd_lst ((same_upd np) _ _ hD))) (by rw [List.getElem?_map, e3]; rfl) (dp_vert' (SqT.of (by rw [upd_ne (Ne.symm nDp)]; exact upd_same)))
    · rintro H1 ⟨s, acc, hD, hA, r⟩
      have r : DpAll K H1 acc (((Kvg9.pairsOf lc).map dV).take (lc.length / 2)) := r
      rw [List.take_of_length_le (by rw [List.length_map, pairs_len]; exact Nat.le_refl _)] at r
      refine ⟨_, rfl, a, _, rfl, .inl ⟨s.seq ha, fun p np => ⟨_, rfl, D, _, rfl, .inl ⟨SqL.of (same_upd np _ _ hD), fun q nq => ⟨by show 2 ≤ sizeLine; decide, fun t nt => ?_⟩⟩⟩⟩⟩
      have s1 := same_upd (o := .tup (la.map V.int)) np
      have s2 := same_upd (o := .tup acc) nq
      have s3 := same_upd (o := .tup [.ref p, .ref q]) nt
      refine k _ _ 0 (s.trans (s1.trans (s2.trans s3))) (Fea.mk (SqT.of upd_same) (SqT.of (s3 _ _ (s2 _ _ upd_same))) (SqT.of (s3 _ _ upd_same)) (DpAllT.tup (Tup.of (s1.trans (s2.trans s3))) _ _ (noLs_map (e := dV) (fun _ => rfl) _) r))
theorem vert_noL (l : List (Int × Int)) : noLs (l.map dV) = true := noLs_map (e := dV) (fun _ => rfl) l
/-- a feature with something of it changed -/
def spWith (K : PySem.W.Frag) (arg : V → Hp → Int × Int → Prop) (can : Feature → Nat → Prop) (to : Feature → Nat → Int × Int → Feature) : Sp := fun vs H Q _ => ∃ x f i y z, vs = [x, .int (i : Nat), y] ∧ Fea K H x f ∧ can f i ∧ f.attributes.length ≤ 8 ∧ f.vertices.length ≤ 12 ∧ arg y H z ∧ ∀ H' x', Same H H' → Fea K H' x' (to f i z) → Q x' H'
def argI : V → Hp → Int × Int → Prop := fun y _ z => y = .int z.1
def argV (K : PySem.W.Frag) : V → Hp → Int × Int → Prop := fun y H z => ∃ a, y = .ref a ∧ SqT K H a [.int z.1, .int z.2]
theorem sc_with_attribute : FnScope ["feature", "index", "value", "attributes", "vertices"] ["feature", "index", "value"] (defScope s_with_attribute) := ⟨rfl, rfl, rfl, by decide +kernel, rfl, by decide +kernel, by decide +kernel⟩
theorem ok_with_attribute (T : Tx K mg) : Ok P w K mg ("with_attribute", none) ["feature", "index", "value"] 1 (spWith K argI (fun f i => i < f.attributes.length) (fun f i z => { f with attributes := f.attributes.set i z.1 })) := by
  refine T.ok (i := 31) (d := d_with_attribute) rfl rfl sc_with_attribute (fun vs H Q E h => ?_) (fun _ _ _ _ _ _ us hl => match us, hl with | [_, _, _], _ => rfl) (fun base tb cdv A outer s H vs Q E hr h => ?_)
  · obtain ⟨x, f, i, y, z, rfl, _⟩ := h
    rfl
  · obtain ⟨x, f, i, y, z, rfl, hf, hi, l1, l2, rfl, k⟩ := h
    obtain ⟨a, p, q, us, rfl, t1, t2, t3, t4⟩ := Fea.parts hf
    have hu := hu_of hr
    refine ⟨_, (pss_cons (ps_asg (pv 0) (pg_tup rfl (pgs_cons (pg_name (i := 3) sc_with_attribute.nd rfl (by first | exact Or.inl rfl | exact Or.inr rfl)) (pgs_cons (pg_name (i := 4) sc_with_attribute.nd rfl (by first | exact Or.inl rfl | exact Or.inr rfl)) pgs_nil))))
        (pss_one (ps_ret (pe_tup (pa_cons (pe_op (kCatT (K := K) rfl) (pe_op (kCatT (K := K) rfl) (pe_slice (kSlT (K := K) rfl) (pv 3) po_none (po_some (pv 1))) (pe_tup (pa_cons (pv 2) pa_nil))) (pe_slice (kSlT (K := K) rfl) (pv 3) (po_some (pe_op op_add (pv 1) pe_int)) po_none)) (pa_cons (pv 4) pa_nil)))))), ?_⟩
    refine ⟨_, rfl, a, _, rfl, t1, rfl, _, _, rfl, _, _, rfl, rfl, ?_⟩
    refine ⟨_, rfl, _, rfl, _, rfl, slT t2 fun p1 H1 s1 u1 => ⟨_, rfl, by show 1 ≤ sizeLine; decide, fun p2 n2 => catT (u1.same (same_upd n2)) (SqT.of upd_same) (small' (m := 20) ?_) fun p3 H3 s3 u3 => ?_⟩⟩
    · rw [cut_to]; simp; omega
    refine ⟨_, rfl, _, rfl, _, _, rfl, rfl, _, rfl, slTF (t2.same (s1.trans ((same_upd n2).trans s3))) fun p4 H4 s4 u4 => catT (u3.same s4) u4 (small' (m := 20) ?_) fun p5 H5 s5 u5 => ?_⟩
    · rw [cut_to, show ((i : Int) + 1) = ((i + 1 : Nat) : Int) by omega, cut_from]; simp; omega
    have sA := (s1.trans ((same_upd n2).trans s3)).trans (s4.trans s5)
    refine ⟨_, rfl, by show 2 ≤ sizeLine; decide, fun p6 n6 => ?_⟩
    rw [cut_to, show ((i : Int) + 1) = ((i + 1 : Nat) : Int) by omega, cut_from, ← List.map_take, ← List.map_drop] at u5
    refine k _ _ (sA.trans (same_upd n6)) (Fea.mk (SqT.of upd_same) ?_ (t3.same (sA.trans (same_upd n6))) (DpAllT.tup (Tup.of (sA.trans (same_upd n6))) _ _ (vert_noL _) t4))
    have := u5.same (same_upd (o := .tup [.ref p5, .ref q]) n6)
    rw [show (f.attributes.set i z.1).map V.int = (f.attributes.take i).map V.int ++ [V.int z.1] ++ (f.attributes.drop (i + 1)).map V.int by
      rw [List.set_eq_take_append_cons_drop, if_pos hi]; simp]
    exact this
theorem set_split {α : Type} {l : List α} {i : Nat} {x : α} (h : i < l.length) : l.set i x = l.take i ++ [x] ++ l.drop (i + 1) := by
  rw [List.set_eq_take_append_cons_drop, if_pos h]; simp
theorem sc_with_moved_vertex : FnScope ["feature", "index", "vertex", "attributes", "vertices"] ["feature", "index", "vertex"] (defScope s_with_moved_vertex) := ⟨rfl, rfl, rfl, by decide +kernel, rfl, by decide +kernel, by decide +kernel⟩
theorem ok_with_moved_vertex (T : Tx K mg) : Ok P w K mg ("with_moved_vertex", none) ["feature", "index", "vertex"] 1 (spWith K (argV K) (fun f i => i < f.vertices.length) (fun f i z => { f with vertices := f.vertices.set i z })) := by
  refine T.ok (i := 32) (d := d_with_moved_vertex) rfl rfl sc_with_moved_vertex (fun vs H Q E h => ?_) (fun _ _ _ _ _ _ us hl => match us, hl with | [_, _, _], _ => rfl) (fun base tb cdv A outer s H vs Q E hr h => ?_)
  · obtain ⟨x, f, i, y, z, rfl, _⟩ := h
    rfl
  · obtain ⟨x, f, i, y, z, rfl, hf, hi, l1, l2, ⟨va, rfl, tv⟩, k⟩ := h
    obtain ⟨a, p, q, us, rfl, t1, t2, t3, t4⟩ := Fea.parts hf
    have lu : us.length = f.vertices.length := by rw [DpAll.len t4, List.length_map]
    have hu := hu_of hr
    refine ⟨_, (pss_cons (ps_asg (pv 0) (pg_tup rfl (pgs_cons (pg_name (i := 3) sc_with_moved_vertex.nd rfl (by first | exact Or.inl rfl | exact Or.inr rfl)) (pgs_cons (pg_name (i := 4) sc_with_moved_vertex.nd rfl (by first | exact Or.inl rfl | exact Or.inr rfl)) pgs_nil))))
        (pss_one (ps_ret (pe_tup (pa_cons (pv 3) (pa_cons (pe_op (kCatT (K := K) rfl) (pe_op (kCatT (K := K) rfl) (pe_slice (kSlT (K := K) rfl) (pv 4) po_none (po_some (pv 1))) (pe_tup (pa_cons (pv 2) pa_nil))) (pe_slice (kSlT (K := K) rfl) (pv 4) (po_some (pe_op op_add (pv 1) pe_int)) po_none)) pa_nil)))))), ?_⟩
    refine ⟨_, rfl, a, _, rfl, t1, rfl, _, _, rfl, _, _, rfl, rfl, ?_⟩
    refine ⟨_, rfl, _, rfl, _, rfl, _, rfl, slT t3 fun p1 H1 s1 u1 => ⟨_, rfl, by show 1 ≤ sizeLine; decide, fun p2 n2 => catT (u1.same (same_upd n2)) (SqT.of upd_same) (small' (m := 20) ?_) fun p3 H3 s3 u3 => ?_⟩⟩
    · rw [cut_to]; simp; omega
    refine ⟨_, rfl, _, rfl, _, _, rfl, rfl, _, rfl, slTF (t3.same (s1.trans ((same_upd n2).trans s3))) fun p4 H4 s4 u4 => catT (u3.same s4) u4 (small' (m := 30) ?_) fun p5 H5 s5 u5 => ?_⟩
    · rw [cut_to, show ((i : Int) + 1) = ((i + 1 : Nat) : Int) by omega, cut_from]; simp; omega
    have sA := (s1.trans ((same_upd n2).trans s3)).trans (s4.trans s5)
    refine ⟨by show 2 ≤ sizeLine; decide, fun p6 n6 => ?_⟩
    have sB := sA.trans (same_upd (o := .tup [.ref p, .ref p5]) n6)
    rw [cut_to, show ((i : Int) + 1) = ((i + 1 : Nat) : Int) by omega, cut_from] at u5
    refine k _ _ sB (Fea.mk (SqT.of upd_same) (t2.same sB) (u5.same (same_upd n6)) ?_)
    have t4' := DpAllT.tup (Tup.of sB) _ _ (vert_noL _) t4
    rw [show ({ f with vertices := f.vertices.set i z } : Feature).vertices.map dV = (f.vertices.map dV).take i ++ [dV z] ++ (f.vertices.map dV).drop (i + 1) by
      show (f.vertices.set i z).map dV = _
      rw [set_split hi]; simp]
    exact DpAll.app (DpAll.app (DpAll.take i t4') (.cons (dp_vert' (tv.same sB)) .nil)) (DpAll.drop (i + 1) t4')
theorem sc_with_inserted_vertex : FnScope ["feature", "index", "vertex", "attributes", "vertices"] ["feature", "index", "vertex"] (defScope s_with_inserted_vertex) := ⟨rfl, rfl, rfl, by decide +kernel, rfl, by decide +kernel, by decide +kernel⟩
theorem ok_with_inserted_vertex (T : Tx K mg) : Ok P w K mg ("with_inserted_vertex", none) ["feature", "index", "vertex"] 1 (spWith K (argV K) (fun f i => i ≤ f.vertices.length) (fun f i z => { f with vertices := f.vertices.take i ++ z :: f.vertices.drop i })) := by
  refine T.ok (i := 33) (d := d_with_inserted_vertex) rfl rfl sc_with_inserted_vertex (fun vs H Q E h => ?_) (fun _ _ _ _ _ _ us hl => match us, hl with | [_, _, _], _ => rfl) (fun base tb cdv A outer s H vs Q E hr h => ?_)
  · obtain ⟨x, f, i, y, z, rfl, _⟩ := h
    rfl
  · obtain ⟨x, f, i, y, z, rfl, hf, hi, l1, l2, ⟨va, rfl, tv⟩, k⟩ := h
    obtain ⟨a, p, q, us, rfl, t1, t2, t3, t4⟩ := Fea.parts hf
    have lu : us.length = f.vertices.length := by rw [DpAll.len t4, List.length_map]
    have hu := hu_of hr
    refine ⟨_, (pss_cons (ps_asg (pv 0) (pg_tup rfl (pgs_cons (pg_name (i := 3) sc_with_inserted_vertex.nd rfl (by first | exact Or.inl rfl | exact Or.inr rfl)) (pgs_cons (pg_name (i := 4) sc_with_inserted_vertex.nd rfl (by first | exact Or.inl rfl | exact Or.inr rfl)) pgs_nil))))
        (pss_one (ps_ret (pe_tup (pa_cons (pv 3) (pa_cons (pe_op (kCatT (K := K) rfl) (pe_op (kCatT (K := K) rfl) (pe_slice (kSlT (K := K) rfl) (pv 4) po_none (po_some (pv 1))) (pe_tup (pa_cons (pv 2) pa_nil))) (pe_slice (kSlT (K := K) rfl) (pv 4) (po_some (pv 1)) po_none)) pa_nil)))))), ?_⟩
    refine ⟨_, rfl, a, _, rfl, t1, rfl, _, _, rfl, _, _, rfl, rfl, ?_⟩
    refine ⟨_, rfl, _, rfl, _, rfl, _, rfl, slT t3 fun p1 H1 s1 u1 => ⟨_, rfl, by show 1 ≤ sizeLine; decide, fun p2 n2 => catT (u1.same (same_upd n2)) (SqT.of upd_same) (small' (m := 20) ?_) fun p3 H3 s3 u3 => ?_⟩⟩
    · rw [cut_to]; simp; omega
    refine ⟨_, rfl, _, rfl, _, rfl, slTF (t3.same (s1.trans ((same_upd n2).trans s3))) fun p4 H4 s4 u4 => catT (u3.same s4) u4 (small' (m := 30) ?_) fun p5 H5 s5 u5 => ?_⟩
    · rw [cut_to, cut_from]; simp; omega
    have sA := (s1.trans ((same_upd n2).trans s3)).trans (s4.trans s5)
    refine ⟨by show 2 ≤ sizeLine; decide, fun p6 n6 => ?_⟩
    have sB := sA.trans (same_upd (o := .tup [.ref p, .ref p5]) n6)
    rw [cut_to, cut_from] at u5
    refine k _ _ sB (Fea.mk (SqT.of upd_same) (t2.same sB) (u5.same (same_upd n6)) ?_)
    have t4' := DpAllT.tup (Tup.of sB) _ _ (vert_noL _) t4
    rw [show ({ f with vertices := f.vertices.take i ++ z :: f.vertices.drop i } : Feature).vertices.map dV = (f.vertices.map dV).take i ++ [dV z] ++ (f.vertices.map dV).drop i by
      show (f.vertices.take i ++ z :: f.vertices.drop i).map dV = _
      simp]
    exact DpAll.app (DpAll.app (DpAll.take i t4') (.cons (dp_vert' (tv.same sB)) .nil)) (DpAll.drop i t4')
def spCut (K : PySem.W.Frag) : Sp := fun vs H Q _ => ∃ x f i, vs = [x, .int (i : Nat)] ∧ Fea K H x f ∧ i < f.vertices.length ∧ f.vertices.length ≤ 12 ∧ ∀ H' x', Same H H' → Fea K H' x' { f with vertices := f.vertices.eraseIdx i } → Q x' H'
theorem sc_without_vertex : FnScope ["feature", "index", "attributes", "vertices"] ["feature", "index"] (defScope s_without_vertex) := ⟨rfl, rfl, rfl, by decide +kernel, rfl, by decide +kernel, by decide +kernel⟩
theorem ok_without_vertex (T : Tx K mg) : Ok P w K mg ("without_vertex", none) ["feature", "index"] 1 (spCut K) := by
  refine T.ok (i := 34) (d := d_without_vertex) rfl rfl sc_without_vertex (fun vs H Q E h => ?_) (fun _ _ _ _ _ _ us hl => match us, hl with | [_, _], _ => rfl) (fun base tb cdv A outer s H vs Q E hr h => ?_)
  · obtain ⟨x, f, i, rfl, _⟩ := h
    rfl
  · obtain ⟨x, f, i, rfl, hf, hi, l2, k⟩ := h
    obtain ⟨a, p, q, us, rfl, t1, t2, t3, t4⟩ := Fea.parts hf
    have lu : us.length = f.vertices.length := by rw [DpAll.len t4, List.length_map]
    have hu := hu_of hr
    refine ⟨_, (pss_cons (ps_asg (pv 0) (pg_tup rfl (pgs_cons (pg_name (i := 2) sc_without_vertex.nd rfl (by first | exact Or.inl rfl | exact Or.inr rfl)) (pgs_cons (pg_name (i := 3) sc_without_vertex.nd rfl (by first | exact Or.inl rfl | exact Or.inr rfl)) pgs_nil))))
        (pss_one (ps_ret (pe_tup (pa_cons (pv 2) (pa_cons (pe_op (kCatT (K := K) rfl) (pe_slice (kSlT (K := K) rfl) (pv 3) po_none (po_some (pv 1))) (pe_slice (kSlT (K := K) rfl) (pv 3) (po_some (pe_op op_add (pv 1) pe_int)) po_none)) pa_nil)))))), ?_⟩
    refine ⟨_, rfl, a, _, rfl, t1, rfl, _, _, rfl, _, _, rfl, rfl, ?_⟩
    refine ⟨_, rfl, _, rfl, _, rfl, _, rfl, slT t3 fun p1 H1 s1 u1 => ?_⟩
    refine ⟨_, rfl, _, rfl, _, _, rfl, rfl, _, rfl, slTF (t3.same s1) fun p4 H4 s4 u4 => catT (u1.same s4) u4 (small' (m := 30) ?_) fun p5 H5 s5 u5 => ?_⟩
    · rw [cut_to, show ((i : Int) + 1) = ((i + 1 : Nat) : Int) by omega, cut_from]; simp; omega
    have sA := s1.trans (s4.trans s5)
    refine ⟨by show 2 ≤ sizeLine; decide, fun p6 n6 => ?_⟩
    have sB := sA.trans (same_upd (o := .tup [.ref p, .ref p5]) n6)
    rw [cut_to, show ((i : Int) + 1) = ((i + 1 : Nat) : Int) by omega, cut_from] at u5
    refine k _ _ sB (Fea.mk (SqT.of upd_same) (t2.same sB) (u5.same (same_upd n6)) ?_)
    have t4' := DpAllT.tup (Tup.of sB) _ _ (vert_noL _) t4
    rw [show ({ f with vertices := f.vertices.eraseIdx i } : Feature).vertices.map dV = (f.vertices.map dV).take i ++ (f.vertices.map dV).drop (i + 1) by
      show (f.vertices.eraseIdx i).map dV = _
      rw [List.eraseIdx_eq_take_drop_succ]; simp]
    exact DpAll.app (DpAll.take i t4') (DpAll.drop (i + 1) t4')
/-! ### rows written -/
def wrote (rs : List (List Int)) : List Int := (rs.length : Int) :: rs.flatten
def spCounted (K : PySem.W.Frag) : Sp := fun vs H Q _ => ∃ (a : Addr) (xs : List V) (rs : List (List Int)), vs = [.ref a] ∧ (SqL K H a xs ∨ SqT K H a xs) ∧ Rows K H xs rs ∧ rs.length ≤ 1000 ∧ (∀ r ∈ rs, r.length ≤ 10) ∧
  ∀ H' p, Same H H' → H p = none → H' p = some (.lst ((wrote rs).map V.int)) → Q (.ref p) H'
theorem flat_len : ∀ {rs : List (List Int)}, (∀ r ∈ rs, r.length ≤ 10) → rs.flatten.length ≤ 10 * rs.length
  | [], _ => Nat.le_refl _
  | r :: rs, h => by
    have h1 := h r (by simp)
    have h2 := flat_len (rs := rs) fun x hx => h x (List.mem_cons_of_mem _ hx)
    simp at h2 ⊢
    omega
theorem sc_counted : FnScope ["rows", "written", "row"] ["rows"] (defScope s_counted) := ⟨rfl, rfl, rfl, by decide +kernel, rfl, by decide +kernel, by decide +kernel⟩
theorem ok_counted (T : Tx K mg) : Ok P w K mg ("counted", none) ["rows"] 1 (spCounted K) := by
  refine T.ok (i := 21) (d := d_counted) rfl rfl sc_counted (fun vs H Q E h => ?_) (fun _ _ _ _ _ _ us hl => match us, hl with | [_], _ => rfl) (fun base tb cdv A outer s H vs Q E hr h => ?_)
  · obtain ⟨a, xs, rs, rfl, _⟩ := h
    rfl
  · obtain ⟨a, xs, rs, rfl, hx, hR, hn, h10, k⟩ := h
    have lx : xs.length = rs.length := by rw [DpAll.len hR, List.length_map]
    have hu := hu_of hr
    refine ⟨_, (pss_cons (ps_set (i := 1) sc_counted.nd rfl (by first | exact Or.inl rfl | exact Or.inr rfl) (pe_lst (pa_cons (pe_callB (kLen (K := K) rfl) (by rfl) (T.free 87) PySem.boot_len (pa_cons (pv 0) pa_nil)) pa_nil)))
        (pss_cons (ps_for PassesOwn.never rfl (pi_or (kPiL (K := K) rfl (pv 0)) (kPiT (K := K) rfl (pv 0))) (pg_name (i := 2) sc_counted.nd rfl (by first | exact Or.inl rfl | exact Or.inr rfl))
          (pss_one (ps_expr (pe_bm PySem.F.plainAttrs_list PySem.F.slot_list_extend PySem.F.type_list_extend (kExt (K := K) rfl) (pv 1) (pa_cons (pv 2) pa_nil)))))
        (pss_one (ps_ret (pv 1))))), ?_⟩
    refine ⟨_, rfl, a, _, rfl, hx, by show 1 ≤ sizeLine; decide, fun l nl => ?_⟩
    have turn : ∀ (i : Nat) (x : V) (v : Option V) (H1 : Hp), xs[i]? = some x → Same H H1 → H1 l = some (.lst (((xs.length : Int) :: (rs.take i).flatten).map V.int)) → ∃ b ys zs, x = .ref b ∧ (H1 b = some (.lst zs) ∨ SqT K H1 b zs) ∧ ys = ((xs.length : Int) :: (rs.take i).flatten).map V.int ∧ ys.length + zs.length ≤ sizeLine ∧ ys ++ zs = ((xs.length : Int) :: (rs.take (i + 1)).flatten).map V.int := by
      intro i x v H1 hxi s hl
      obtain ⟨r, b, e1, rfl, t⟩ := Rows.at hR hxi
      have e2 : (rs.take (i + 1)).flatten = (rs.take i).flatten ++ r := by rw [take_snoc e1, List.flatten_append]; simp
      have l1 : (rs.take (i + 1)).flatten.length ≤ 10 * rs.length := by
        have := flat_len (rs := rs.take (i + 1)) fun r hr => h10 r (List.mem_of_mem_take hr)
        have : (rs.take (i + 1)).length ≤ rs.length := by simp; omega
        omega
      refine ⟨b, _, _, rfl, .inr (t.same s), rfl, ?_, ?_⟩
      · rw [e2, List.length_append] at l1
        rw [List.length_map, List.length_map, List.length_cons]
        refine small' (m := 20000) ?_
        omega
      · rw [e2]; simp
    have inv : ∀ {i : Nat} {x : V} {v : Option V} {H1 : Hp} {b : Addr} {ys zs : List V}, x = .ref b → Same H H1 → H1 l = some (.lst ys) → ys ++ zs = ((xs.length : Int) :: (rs.take (i + 1)).flatten).map V.int →
        ∃ v : Option V, ([some (.ref a), some (.ref l), some x] : L2.St) = [some (.ref a), some (.ref l), v] ∧ Same H (upd H1 l (.lst (ys ++ zs))) ∧ (upd H1 l (.lst (ys ++ zs))) l = some (.lst (((xs.length : Int) :: (rs.take (i + 1)).flatten).map V.int)) := by
      intro i x v H1 b ys zs e s hl eq
      refine ⟨_, rfl, fun c o hc => ?_, by rw [upd_same, eq]⟩
      rw [upd_ne (ne_of_none hc nl)]
      exact s c o hc
    have fin : ∀ H1, Same H H1 → H1 l = some (.lst (((xs.length : Int) :: (rs.take xs.length).flatten).map V.int)) → Q (.ref l) H1 := fun H1 s hl => by
      rw [lx, List.take_length] at hl
      exact k H1 l s nl hl
    rcases hx with hx | hx
    · refine .inl ⟨_, rfl, a, rfl, ⟨_, (same_upd nl).seq hx⟩, for_list (K := K) (a := a) (xs := xs) (fun i σ H1 => ∃ v : Option V, σ = [some (.ref a), some (.ref l), v] ∧ Same H H1 ∧ H1 l = some (.lst (((xs.length : Int) :: (rs.take i).flatten).map V.int)))
        ⟨none, rfl, same_upd nl, upd_same⟩ (fun i σ H1 _ ⟨_, _, s, _⟩ => s.seq hx) ?_ ?_⟩
      · rintro i x σ H1 hi ⟨v, rfl, s, hl⟩
        obtain ⟨b, ys, zs, rfl, h1, rfl, h2, h3⟩ := turn i x v H1 hi s hl
        refine ⟨_, rfl, .inl ⟨rfl, _, SqL.of hl⟩, _, rfl, l, b, _, zs, rfl, rfl, hl, h1, h2, ?_⟩
        exact inv (v := v) (b := b) rfl s hl h3
      · rintro σ H1 ⟨v, rfl, s, hl⟩
        exact ⟨_, rfl, fin H1 s hl⟩
    · refine .inr ⟨_, rfl, a, rfl, ⟨_, hx.same (same_upd nl)⟩, for_tup (K := K) (a := a) (xs := xs) (fun i σ H1 => ∃ v : Option V, σ = [some (.ref a), some (.ref l), v] ∧ Same H H1 ∧ H1 l = some (.lst (((xs.length : Int) :: (rs.take i).flatten).map V.int)))
        ⟨none, rfl, same_upd nl, upd_same⟩ (fun i σ H1 _ ⟨_, _, s, _⟩ => hx.same s) ?_ ?_⟩
      · rintro i x σ H1 hi ⟨v, rfl, s, hl⟩
        obtain ⟨b, ys, zs, rfl, h1, rfl, h2, h3⟩ := turn i x v H1 hi s hl
        refine ⟨_, rfl, .inl ⟨rfl, _, SqL.of hl⟩, _, rfl, l, b, _, zs, rfl, rfl, hl, h1, h2, ?_⟩
        exact inv (v := v) (b := b) rfl s hl h3
      · rintro σ H1 ⟨v, rfl, s, hl⟩
        exact ⟨_, rfl, fin H1 s hl⟩
def spWritten (K : PySem.W.Frag) : Sp := fun vs H Q _ => ∃ x f, vs = [x] ∧ Fea K H x f ∧ f.attributes.length ≤ 8 ∧ f.vertices.length ≤ 12 ∧ ∀ H' p, Same H H' → H p = none → H' p = some (.lst ((featureValues f).map V.int)) → Q (.ref p) H'
theorem verts_rows (l : List (Int × Int)) : l.map dV = (l.map fun v => [v.1, v.2]).map dR := by rw [List.map_map]; rfl
theorem sc_written_feature : FnScope ["feature", "attributes", "vertices"] ["feature"] (defScope s_written_feature) := ⟨rfl, rfl, rfl, by decide +kernel, rfl, by decide +kernel, by decide +kernel⟩
theorem ok_written_feature (T : Tx K mg) : Ok P w K mg ("written_feature", none) ["feature"] 2 (spWritten K) := by
  refine T.ok (i := 35) (d := d_written_feature) rfl rfl sc_written_feature (fun vs H Q E h => ?_) (fun _ _ _ _ _ _ us hl => match us, hl with | [_], _ => rfl) (fun base tb cdv A outer s H vs Q E hr h => ?_)
  · obtain ⟨x, f, rfl, _⟩ := h
    rfl
  · obtain ⟨x, f, rfl, hf, l1, l2, k⟩ := h
    obtain ⟨a, p, q, us, rfl, t1, t2, t3, t4⟩ := Fea.parts hf
    rw [verts_rows] at t4
    have hu := hu_of hr
    refine ⟨_, (pss_cons (ps_asg (pv 0) (pg_tup rfl (pgs_cons (pg_name (i := 1) sc_written_feature.nd rfl (by first | exact Or.inl rfl | exact Or.inr rfl)) (pgs_cons (pg_name (i := 2) sc_written_feature.nd rfl (by first | exact Or.inl rfl | exact Or.inr rfl)) pgs_nil))))
        (pss_one (ps_ret (pe_op op_cat (pe_op op_cat (pe_lst (pa_cons (pe_callB (kLen (K := K) rfl) (by rfl) (T.free 87) PySem.boot_len (pa_cons (pv 1) pa_nil)) pa_nil)) (pe_callTy (kToL (K := K) rfl) (by rfl) (T.free 88) (by decide +kernel) (pa_cons (pv 1) pa_nil))) (pe_callO (ok_counted T) tb (T.glo 21) hr rfl (pa_cons (pv 2) pa_nil)))))), ?_⟩
    refine ⟨_, rfl, a, _, rfl, t1, rfl, _, _, rfl, _, _, rfl, rfl, ?_⟩
    refine ⟨_, rfl, p, _, rfl, .inr t2, by show 1 ≤ sizeLine; decide, fun b nb => ⟨_, rfl, p, _, rfl, .inr (t2.same (same_upd nb)), fun c nc => ?_⟩⟩
    have s1 := same_upd (o := .lst [V.int ((f.attributes.map V.int).length : Nat)]) nb
    have s2 := same_upd (o := .lst (f.attributes.map V.int)) nc
    refine ⟨b, c, _, _, rfl, rfl, s2 _ _ upd_same, upd_same, small' (m := 20) (by simp; omega), fun d nd => ?_⟩
    have s3 := same_upd (o := .lst ([V.int ((f.attributes.map V.int).length : Nat)] ++ f.attributes.map V.int)) nd
    have sA := s1.trans (s2.trans s3)
    refine ⟨_, rfl, q, us, _, rfl, .inr (t3.same sA), Rows.tup (Tup.of sA) t4, by rw [List.length_map]; omega, fun r hr => ?_, fun H' e s4 ne he => ?_⟩
    · obtain ⟨v, _, rfl⟩ := List.mem_map.mp hr
      show 2 ≤ 10
      decide
    refine ⟨d, e, _, _, rfl, rfl, s4 _ _ upd_same, he, ?_, fun g ng => ?_⟩
    · refine small' (m := 1000) ?_
      have : (f.vertices.map fun v => [v.1, v.2]).flatten.length ≤ 10 * 12 := by
        have := flat_len (rs := f.vertices.map fun v => [v.1, v.2]) fun r hr => by
          obtain ⟨v, _, rfl⟩ := List.mem_map.mp hr
          show 2 ≤ 10
          decide
        rw [List.length_map] at this
        omega
      unfold wrote
      rw [List.length_append, List.length_map, List.length_map, List.length_map, List.length_cons, List.length_cons, List.length_nil]
      exact Nat.le_trans (Nat.add_le_add_left (Nat.succ_le_succ this) _) (by omega)
    · have sB := (sA.trans s4).trans (same_upd (o := .lst ([V.int ((f.attributes.map V.int).length : Nat)] ++ f.attributes.map V.int ++ (wrote (f.vertices.map fun v => [v.1, v.2])).map V.int)) ng)
      refine k _ g sB ?_ ?_
      · exact (sA.trans s4).free ng
      · rw [upd_same]
        unfold featureValues wrote
        simp [List.flatMap]
end Pv
end
section
set_option Elab.async false
set_option linter.all false
set_option maxRecDepth 100000
set_option maxHeartbeats 2000000
namespace Pv
open PySem PySem.Spec PyProof.Rows L2 Kvg9
open L2 (Dp DpAll)
variable {P : Program} {w : World} {K : PySem.W.Frag} {mg : Str → Option Value}
/-- the head is there -/
structure HdOk (s : Store) : Prop where
  cu : lookup s.branches s.current = some s.head
  cm : ∃ c, s.commit s.head = some c
theorem Good.hd {s : Store} (g : Good s) : HdOk s := by
  obtain ⟨c, h1, h2⟩ := g.head
  exact ⟨h1, c, h2⟩
def spHead (K : PySem.W.Frag) : Sp := fun vs H Q _ => ∃ a s m av, vs = [.ref a] ∧ StoreG K H a s m av ∧ HdOk s ∧ Q (.int (s.head : Nat)) H
theorem sc_Store_head : FnScope ["self"] ["self"] (defScope s_Store_head) := ⟨rfl, rfl, rfl, by decide +kernel, rfl, by decide +kernel, by decide +kernel⟩
theorem ok_Store_head (T : Tx K mg) : Ok P w K mg ("Store", some "head") ["self"] 1 (spHead K) := by
  refine T.ok (i := 82) (d := d_Store_head) rfl rfl sc_Store_head (fun vs H Q E h => ?_) (fun _ _ _ _ _ _ us hl => match us, hl with | [_], _ => rfl) (fun base tb cdv A outer s H vs Q E hr h => ?_)
  · obtain ⟨a, s, m, av, rfl, _⟩ := h
    rfl
  · obtain ⟨a, s, m, av, rfl, S, G, k⟩ := h
    obtain ⟨⟨dx, fs, h1, F⟩, ⟨kc, h2, C⟩, ⟨kb, h3, B⟩, ⟨kt, h4, T'⟩, W, A⟩ := id S
    have hu := hu_of hr
    refine ⟨_, (pss_one (ps_ret (pe_dget hu (pe_fld (pv 0) rfl) (pe_fld (pv 0) rfl) (fun _ _ => rfl)))), ?_⟩
    refine ⟨_, rfl, _, _, _, _, _, rfl, h1, (T.cls 145), (T.noat 148), F.br, _, rfl, _, _, _, _, _, rfl, h1, (T.cls 145), (T.noat 151), F.cu, m.db, .int (s.head : Nat), rfl, ?_, k⟩
    have := DGet.k (k := kI s.current) h3
    rw [B.get, G.cu] at this
    exact this
/-- .. its version: a dict that is no working version -/
def spHeadV (K : PySem.W.Frag) : Sp := fun vs H Q _ => ∃ a s m av, vs = [.ref a] ∧ StoreG K H a s m av ∧ HdOk s ∧ ∀ d, VerAt K H d (s.version s.head) → d ∉ av → Q (.ref d) H
theorem sc_Store_head_version : FnScope ["self"] ["self"] (defScope s_Store_head_version) := ⟨rfl, rfl, rfl, by decide +kernel, rfl, by decide +kernel, by decide +kernel⟩
theorem ok_Store_head_version (T : Tx K mg) : Ok P w K mg ("Store", some "head_version") ["self"] 2 (spHeadV K) := by
  refine T.ok (i := 83) (d := d_Store_head_version) rfl rfl sc_Store_head_version (fun vs H Q E h => ?_) (fun _ _ _ _ _ _ us hl => match us, hl with | [_], _ => rfl) (fun base tb cdv A outer s H vs Q E hr h => ?_)
  · obtain ⟨a, s, m, av, rfl, _⟩ := h
    rfl
  · obtain ⟨a, s, m, av, rfl, S, G, k⟩ := h
    obtain ⟨⟨dx, fs, h1, F⟩, ⟨kc, h2, C⟩, ⟨kb, h3, B⟩, ⟨kt, h4, T'⟩, W, A⟩ := id S
    obtain ⟨cm, hc⟩ := G.cm
    obtain ⟨c, e1, e2⟩ := C.at_ _ _ hc
    obtain ⟨dy, gs, p, d, g1, g2, g3, g4, g5, g6, g7, g8, g9⟩ := e2.ex
    have hu := hu_of hr
    refine ⟨_, (pss_one (ps_ret (pe_fld (pe_dget hu (pe_fld (pv 0) rfl) (pe_methO0 (pv 0) (ok_Store_head T) tb (T.cls 145) (T.meth 155) hr) (fun _ _ => rfl)) rfl))), ?_⟩
    refine ⟨_, rfl, _, _, _, _, _, rfl, h1, (T.cls 145), (T.noat 150), F.cm, _, rfl, a, dx, _, rfl, h1, F.only ("head" : Str) (by decide +kernel), a, s, m, av, rfl, S, G, m.dc, .ref c, rfl, ?_, c, _, _, _, _, rfl, g1, (T.cls 139), (T.noat 143), g3, ?_⟩
    · have := DGet.k (k := kI s.head) h2
      rw [e1] at this
      exact this
    · rw [ver_of hc] at k
      exact k d g6 g9
def spChg (K : PySem.W.Frag) : Sp := fun vs H Q _ => ∃ a s m av, vs = [.ref a] ∧ StoreG K H a s m av ∧ Good s ∧ Q (.bl s.isChanged) H
theorem sc_Store_is_changed : FnScope ["self"] ["self"] (defScope s_Store_is_changed) := ⟨rfl, rfl, rfl, by decide +kernel, rfl, by decide +kernel, by decide +kernel⟩
theorem ok_Store_is_changed (T : Tx K mg) : Ok P w K mg ("Store", some "is_changed") ["self"] 3 (spChg K) := by
  refine T.ok (i := 84) (d := d_Store_is_changed) rfl rfl sc_Store_is_changed (fun vs H Q E h => ?_) (fun _ _ _ _ _ _ us hl => match us, hl with | [_], _ => rfl) (fun base tb cdv A outer s H vs Q E hr h => ?_)
  · obtain ⟨a, s, m, av, rfl, _⟩ := h
    rfl
  · obtain ⟨a, s, m, av, rfl, S, G, k⟩ := h
    obtain ⟨⟨dx, fs, h1, F⟩, ⟨kc, h2, C⟩, ⟨kb, h3, B⟩, ⟨kt, h4, T'⟩, W, A⟩ := id S
    obtain ⟨cm, hc⟩ := G.hd.cm
    have hu := hu_of hr
    have hu65 := hu65_of hr
    refine ⟨_, (pss_one (ps_ret (pe_cmpR (kVerNe (K := K) rfl hu65) (pe_fld (pv 0) rfl) (pe_methO0 (pv 0) (ok_Store_head_version T) tb (T.cls 145) (T.meth 156) hr) (nomark _)))), ?_⟩
    refine ⟨_, rfl, _, _, _, _, _, rfl, h1, (T.cls 145), (T.noat 153), F.wk, _, rfl, a, dx, _, rfl, h1, F.only ("head_version" : Str) (by decide +kernel), a, s, m, av, rfl, S, G.hd, fun d hd _ => ?_⟩
    refine ⟨m.dw, d, _, _, rfl, rfl, W, hd, G.wk.srt, ?_, ?_⟩
    · rw [ver_of hc]
      exact (G.com _ _ hc).ver.srt
    · have e : s.isChanged = !decide (s.working = s.version s.head) := by
        unfold Store.isChanged
        by_cases q : s.working = s.version s.head
        · rw [q, decide_eq_true rfl]; simp
        · rw [decide_eq_false q]; simp [q]
      rw [e] at k
      exact k
def spFull (K : PySem.W.Frag) : Sp := fun vs H Q _ => ∃ a s m av, vs = [.ref a] ∧ StoreG K H a s m av ∧ Q (.bl (decide (40 ≤ s.commits.length))) H
theorem sc_Store_is_full : FnScope ["self"] ["self"] (defScope s_Store_is_full) := ⟨rfl, rfl, rfl, by decide +kernel, rfl, by decide +kernel, by decide +kernel⟩
theorem ok_Store_is_full (T : Tx K mg) : Ok P w K mg ("Store", some "is_full") ["self"] 1 (spFull K) := by
  refine T.ok (i := 85) (d := d_Store_is_full) rfl rfl sc_Store_is_full (fun vs H Q E h => ?_) (fun _ _ _ _ _ _ us hl => match us, hl with | [_], _ => rfl) (fun base tb cdv A outer s H vs Q E hr h => ?_)
  · obtain ⟨a, s, m, av, rfl, _⟩ := h
    rfl
  · obtain ⟨a, s, m, av, rfl, S, k⟩ := h
    obtain ⟨⟨dx, fs, h1, F⟩, ⟨kc, h2, C⟩, ⟨kb, h3, B⟩, ⟨kt, h4, T'⟩, W, A⟩ := id S
    have hu := hu_of hr
    refine ⟨_, (pss_one (ps_ret (pe_cmpR op_ge (pe_fld (pv 0) rfl) (pe_gint (T.int 104) rfl) (nomark _)))), ?_⟩
    refine ⟨_, rfl, _, _, _, _, _, rfl, h1, (T.cls 145), (T.noat 149), F.cc, _, _, rfl, rfl, ?_⟩
    rw [show decide (40 ≤ s.commits.length) = decide ((40 : Int) ≤ ((s.commits.length : Nat) : Int)) by
      by_cases q : 40 ≤ s.commits.length
      · rw [decide_eq_true q, decide_eq_true (show (40 : Int) ≤ ((s.commits.length : Nat) : Int) by omega)]
      · rw [decide_eq_false q, decide_eq_false (show ¬ (40 : Int) ≤ ((s.commits.length : Nat) : Int) by omega)]] at k
    exact k
def spVerOf (K : PySem.W.Frag) : Sp := fun vs H Q _ => ∃ a s m av n, vs = [.ref a, .int (n : Nat)] ∧ StoreG K H a s m av ∧ Good s ∧ (s.source n = none → Q .non H) ∧ ∀ d v, s.source n = some v → VerAt K H d v → Q (.ref d) H
theorem sc_Store_version_of : FnScope ["self", "number"] ["self", "number"] (defScope s_Store_version_of) := ⟨rfl, rfl, rfl, by decide +kernel, rfl, by decide +kernel, by decide +kernel⟩
theorem ok_Store_version_of (T : Tx K mg) : Ok P w K mg ("Store", some "version_of") ["self", "number"] 1 (spVerOf K) := by
  refine T.ok (i := 87) (d := d_Store_version_of) rfl rfl sc_Store_version_of (fun vs H Q E h => ?_) (fun _ _ _ _ _ _ us hl => match us, hl with | [_, _], _ => rfl) (fun base tb cdv A outer s H vs Q E hr h => ?_)
  · obtain ⟨a, s, m, av, n, rfl, _⟩ := h
    rfl
  · obtain ⟨a, s, m, av, n, rfl, S, G, k1, k2⟩ := h
    obtain ⟨⟨dx, fs, h1, F⟩, ⟨kc, h2, C⟩, ⟨kb, h3, B⟩, ⟨kt, h4, T'⟩, W, A⟩ := id S
    have hu := hu_of hr
    refine ⟨_, (pss_cons (ps_if (pt_cmpR op_eq (pv 1) (pe_gint (T.int 107) rfl) (nomark _))
          (pss_one (ps_ret (pe_fld (pv 0) rfl))) pss_nil)
        (pss_cons (ps_if (pt_cmp (pc_din hu (pv 1) (pe_fld (pv 0) rfl)))
          (pss_one (ps_ret (pe_fld (pe_dget hu (pe_fld (pv 0) rfl) (pv 1) (fun _ _ => rfl)) rfl))) pss_nil)
        (pss_one (ps_ret pe_non)))), ?_⟩
    refine ⟨_, rfl, rfl, _, rfl, ?_⟩
    by_cases q : n = 4294967295
    · refine itT (decide_eq_true (congrArg V.int (by omega))) ?_
      refine ⟨_, rfl, _, _, _, _, _, rfl, h1, (T.cls 145), (T.noat 153), F.wk, ?_⟩
      refine k2 _ s.working ?_ W
      unfold Store.source
      rw [if_pos (show n = workingNumber from q)]
    · refine itF (decide_eq_false fun z => q (by have := V.int.inj z; omega)) ?_
      have es : s.source n = (s.commit n).map Commit.version := by
        unfold Store.source
        rw [if_neg (show ¬ n = workingNumber from q)]
      refine ⟨_, rfl, _, rfl, _, _, _, _, _, rfl, h1, (T.cls 145), (T.noat 150), F.cm, m.dc, _, rfl, DGet.k (k := kI n) h2, _, rfl, ?_⟩
      cases hc : s.commit n with
      | some cm =>
        obtain ⟨c, e1, e2⟩ := C.at_ _ _ hc
        obtain ⟨dy, gs, p, d, g1, g2, g3, g4, g5, g6, g7, g8, g9⟩ := e2.ex
        rw [e1]
        refine itT rfl ?_
        refine ⟨_, rfl, _, _, _, _, _, rfl, h1, (T.cls 145), (T.noat 150), F.cm, _, rfl, m.dc, .ref c, rfl, ?_, c, _, _, _, _, rfl, g1, (T.cls 139), (T.noat 143), g3, ?_⟩
        · have := DGet.k (k := kI n) h2
          rw [e1] at this
          exact this
        · exact k2 d cm.version (by rw [es, hc]; rfl) g6
      | none =>
        have : valV kc (kI n) = none := by
          cases e : valV kc (kI n) with
          | none => rfl
          | some x =>
            have m := valV_in e
            rw [C.keys] at m
            obtain ⟨j, hj, ej⟩ := List.mem_map.mp m
            rw [kI_inj.mp ej] at hj
            have := (List.mem_filter.mp hj).2
            rw [hc] at this
            cases this
        rw [this]
        refine itF rfl ?_
        exact k1 (by rw [es, hc]; rfl)
/-- the working version becomes a copy of the head's -/
def spTake (K : PySem.W.Frag) : Sp := fun vs H Q _ => ∃ a s m av, vs = [.ref a] ∧ StoreG K H a s m av ∧ m.co a ⊆ av ∧ HdOk s ∧
  ∀ H' dw, H dw = none → StoreAt K H' a { s with working := s.version s.head } { m with dw := dw } → Fr H a m H' { m with dw := dw } → Q .non H'
theorem sc_Store_take_head_version : FnScope ["self"] ["self"] (defScope s_Store_take_head_version) := ⟨rfl, rfl, rfl, by decide +kernel, rfl, by decide +kernel, by decide +kernel⟩
theorem ok_Store_take_head_version (T : Tx K mg) : Ok P w K mg ("Store", some "take_head_version") ["self"] 3 (spTake K) := by
  refine T.ok (i := 90) (d := d_Store_take_head_version) rfl rfl sc_Store_take_head_version (fun vs H Q E h => ?_) (fun _ _ _ _ _ _ us hl => match us, hl with | [_], _ => rfl) (fun base tb cdv A outer s H vs Q E hr h => ?_)
  · obtain ⟨a, s, m, av, rfl, _⟩ := h
    rfl
  · obtain ⟨a, s, m, av, rfl, S, hco, G, k⟩ := h
    obtain ⟨⟨dx, fs, h1, F⟩, ⟨kc, h2, C⟩, ⟨kb, h3, B⟩, ⟨kt, h4, T'⟩, W, A⟩ := id S
    have hu := hu_of hr
    refine ⟨_, (pss_one (ps_fld (pv 0) (pe_callTy kDict (by rfl) (T.free 84) (by decide +kernel) (pa_cons (pe_methO0 (pv 0) (ok_Store_head_version T) tb (T.cls 145) (T.meth 156) hr) pa_nil)) rfl)), ?_⟩
    refine ⟨_, rfl, a, dx, _, rfl, h1, F.only ("head_version" : Str) (by decide +kernel), a, s, m, av, rfl, S, G, fun d ⟨kd, hd, D⟩ _ => ⟨d, kd, rfl, .inl hd, fun p np => ?_⟩⟩
    have s1 := same_upd (o := .dK kd) np
    refine ⟨_, rfl, a, _, dx, _, rfl, s1 _ _ h1, (T.cls 145), (T.noat 153), Nat.lt_of_le_of_lt F.len (by decide), ?_⟩
    have n1 : a ≠ p := ne_of_none h1 np
    have n2 : m.dc ≠ p := ne_of_none h2 np
    have n3 : m.db ≠ p := ne_of_none h3 np
    have n4 : m.dt ≠ p := ne_of_none h4 np
    obtain ⟨na, nb, nt, nw⟩ := S.ne_a
    have t1 : Tup H (upd (upd H p (.dK kd)) a (.ins (cSto K) dx (putF ("working" : Str) (.ref p) fs))) := (Tup.of s1).trans (Tup.upd (s1 _ _ h1) rfl)
    refine k _ p np ⟨⟨dx, _, upd_same, F.setWK _⟩, ⟨kc, ?_, ?_⟩, ⟨kb, ?_, B⟩, ⟨kt, ?_, T'⟩, ⟨kd, ?_, D.tup t1⟩, ⟨A.cb, A.ct, n2, A.bt, n3, n4⟩⟩ ⟨fun b o e hb => ?_, fun b hb => ?_, fun b e => ?_⟩
    · rw [upd_ne (Ne.symm na)]; exact s1 _ _ h2
    · refine ⟨C.keys, fun n cm e => ?_⟩
      obtain ⟨c, e1, e2⟩ := C.at_ n cm e
      refine ⟨c, e1, (ComAt.off (av' := ({ m with dw := p } : Mu).av a) (fun b hb => ?_) e2).keep (fun b o e hb _ => ?_) t1⟩
      · have : b = a ∨ b = m.dc ∨ b = m.db ∨ b = m.dt ∨ b = p := by simpa [Mu.av] using hb
        rcases this with e | e | e | e | e <;> rw [e]
        · exact .inl (hco (by simp [Mu.co]))
        · exact .inl (hco (by simp [Mu.co]))
        · exact .inl (hco (by simp [Mu.co]))
        · exact .inl (hco (by simp [Mu.co]))
        · exact .inr np
      · rw [upd_ne (fun z => hb (by rw [z]; exact av_a))]; exact s1 _ _ e
    · rw [upd_ne (Ne.symm nb)]; exact s1 _ _ h3
    · rw [upd_ne (Ne.symm nt)]; exact s1 _ _ h4
    · rw [upd_ne (Ne.symm n1)]; exact upd_same
    · rw [upd_ne (fun z => hb (by rw [z]; exact av_a))]; exact s1 _ _ e
    · have : b = a ∨ b = m.dc ∨ b = m.db ∨ b = m.dt ∨ b = p := by simpa [Mu.av] using hb
      rcases this with e | e | e | e | e <;> rw [e]
      · exact .inl av_a
      · exact .inl av_c
      · exact .inl av_b
      · exact .inl av_t
      · exact .inr np
    · by_cases q : b = a
      · rw [q, upd_same] at e; cases e
      · rw [upd_ne q] at e
        exact s1.free e
end Pv
end
section
set_option Elab.async false
set_option linter.all false
set_option maxRecDepth 100000
set_option maxHeartbeats 2000000
namespace Pv
open PySem PySem.Spec PyProof.Rows L2 Kvg9
open L2 (Dp DpAll)
variable {P : Program} {w : World} {K : PySem.W.Frag} {mg : Str → Option Value}
theorem sc_remove_feature : FnScope ["store", "given", "feature_id"] ["store", "given"] (defScope s_remove_feature) := ⟨rfl, rfl, rfl, by decide +kernel, rfl, by decide +kernel, by decide +kernel⟩
theorem ok_remove_feature (T : Tx K mg) : Ok P w K mg ("remove_feature", none) ["store", "given"] 1 (spRun K g1 nat32 Operation.removeFeature) := by
  refine T.ok (i := 37) (d := d_remove_feature) rfl rfl sc_remove_feature (fun vs H Q E h => ?_) (fun _ _ _ _ _ _ us hl => match us, hl with | [_, _], _ => rfl) (fun base tb cdv A outer s H vs Q E hr h => ?_)
  · obtain ⟨a, s, m, g, x, xs, rfl, _⟩ := h
    rfl
  · obtain ⟨a, s, m, g, x, xs, rfl, S, G, tt, hg, rfl, hx, k⟩ := h
    obtain ⟨⟨dx, fs, h1, F⟩, ⟨kc, h2, C⟩, ⟨kb, h3, B⟩, ⟨kt, h4, T'⟩, ⟨kw, h5, D⟩, A⟩ := id S
    obtain ⟨na, nb, nt, nw⟩ := S.ne_a
    have hu := hu_of hr
    refine ⟨_, (pss_cons (ps_set (i := 2) sc_remove_feature.nd rfl (by first | exact Or.inl rfl | exact Or.inr rfl) (pe_ix (kIxL (K := K) rfl) (pv 1) pe_int (fun _ _ => rfl)))
        (pss_cons (ps_if (pt_cmp (pc_dnotin hu (pv 2) (pe_fld (pv 0) rfl)))
          (pss_one (ps_ret (pe_lst (pa_cons (pe_gint (T.int 108) rfl) pa_nil)))) pss_nil)
        (pss_cons (ps_expr (pe_dpop1 (pe_fld (pv 0) rfl) (pv 2) ⟨by rfl, by rfl, by rfl, by rfl⟩))
        (pss_one (ps_ret (pe_lst (pa_cons (pe_callB call_lenD (by rfl) (T.free 87) PySem.boot_len (pa_cons (pe_fld (pv 0) rfl) pa_nil)) pa_nil))))))), ?_⟩
    refine ⟨_, rfl, g, _, _, _, rfl, rfl, SqL.of hg, atI_nat (j := 0) rfl, _, rfl, _, rfl, _, _, _, _, _, rfl, h1, (T.cls 145), (T.noat 153), F.wk, m.dw, _, rfl, DGet.k (k := kI x) h5, _, rfl, ?_⟩
    cases hf : find s.working x with
    | none =>
      rw [D.none hf]
      refine itT rfl ?_
      have e : s.run (.removeFeature x) = (s, .error (-2)) := by simp [Store.run, hf]
      exact lit_done S tt (by rw [e]) (by rw [e] <;> rfl) rfl k
    | some f =>
      obtain ⟨u, e1, e2⟩ := D.some hf
      rw [e1]
      refine itF rfl ?_
      have D1 := D.drop x
      have h1' : (upd H m.dw (.dK (dropK kw (kI x)))) a = some (.ins (cSto K) dx fs) := by rw [upd_ne nw]; exact h1
      refine ⟨_, rfl, _, _, _, _, _, rfl, h1, (T.cls 145), (T.noat 153), F.wk, m.dw, rfl, .inl ⟨kw, .inl h5⟩, _, rfl, kw, kI x, u, h5, rfl, e1, _, rfl, _, _, _, _, _, rfl, h1', (T.cls 145), (T.noat 153), F.wk, m.dw, _, rfl, upd_same, ?_⟩
      have e : s.run (.removeFeature x) = ({ s with working := Kvg9.removeFeature s.working x }, .number (s.working.length - 1)) := by simp [Store.run, hf]
      have el : (dropK kw (kI x)).length = s.working.length - 1 := by
        rw [D1.len (srt_rem G.wk.srt), len_rem G.wk.srt (by rw [hf]; rfl)]
      exact new_done S tt (S.setW D1) (Fr.upd av_w) (by rw [e]) (by rw [e] <;> rfl) (by rw [el]; rfl) k
/-- signed arguments -/
def g3i : Nat × Nat × Int → List V → Hp → Prop := fun x xs _ => xs = [V.int (x.1 : Nat), V.int (x.2.1 : Nat), V.int x.2.2]
def g4i : Nat × Nat × Int × Int → List V → Hp → Prop := fun x xs _ => xs = [V.int (x.1 : Nat), V.int (x.2.1 : Nat), V.int x.2.2.1, V.int x.2.2.2]
theorem geN {a b : Nat} : decide (((a : Nat) : Int) ≥ ((b : Nat) : Int)) = decide (b ≤ a) := by
  by_cases h : b ≤ a
  · rw [decide_eq_true h, decide_eq_true (show ((a : Nat) : Int) ≥ ((b : Nat) : Int) by omega)]
  · rw [decide_eq_false h, decide_eq_false (show ¬ ((a : Nat) : Int) ≥ ((b : Nat) : Int) by omega)]
theorem sc_set_attribute : FnScope ["store", "given", "feature_id", "index", "value", "feature"] ["store", "given"] (defScope s_set_attribute) := ⟨rfl, rfl, rfl, by decide +kernel, rfl, by decide +kernel, by decide +kernel⟩
theorem ok_set_attribute (T : Tx K mg) : Ok P w K mg ("set_attribute", none) ["store", "given"] 2 (spRun K g3i (fun _ => True) (fun x => Operation.setAttribute x.1 x.2.1 x.2.2)) := by
  refine T.ok (i := 38) (d := d_set_attribute) rfl rfl sc_set_attribute (fun vs H Q E h => ?_) (fun _ _ _ _ _ _ us hl => match us, hl with | [_, _], _ => rfl) (fun base tb cdv A outer s H vs Q E hr h => ?_)
  · obtain ⟨a, s, m, g, x, xs, rfl, _⟩ := h
    rfl
  · obtain ⟨a, s, m, g, x, xs, rfl, S, G, tt, hg, rfl, hx, k⟩ := h
    obtain ⟨⟨dx, fs, h1, F⟩, ⟨kc, h2, C⟩, ⟨kb, h3, B⟩, ⟨kt, h4, T'⟩, ⟨kw, h5, D⟩, A⟩ := id S
    obtain ⟨na, nb, nt, nw⟩ := S.ne_a
    have hu := hu_of hr
    refine ⟨_, (pss_cons (ps_asg (pv 1) (pg_unl rfl (pgs_cons (pg_name (i := 2) sc_set_attribute.nd rfl (by first | exact Or.inl rfl | exact Or.inr rfl)) (pgs_cons (pg_name (i := 3) sc_set_attribute.nd rfl (by first | exact Or.inl rfl | exact Or.inr rfl)) (pgs_cons (pg_name (i := 4) sc_set_attribute.nd rfl (by first | exact Or.inl rfl | exact Or.inr rfl)) pgs_nil)))))
        (pss_cons (ps_if (pt_cmp (pc_dnotin hu (pv 2) (pe_fld (pv 0) rfl)))
          (pss_one (ps_ret (pe_lst (pa_cons (pe_gint (T.int 108) rfl) pa_nil)))) pss_nil)
        (pss_cons (ps_set (i := 5) sc_set_attribute.nd rfl (by first | exact Or.inl rfl | exact Or.inr rfl) (pe_dget hu (pe_fld (pv 0) rfl) (pv 2) (fun _ _ => rfl)))
        (pss_cons (ps_if (pt_cmpR op_ge (pv 3) (pe_fld (pv 0) rfl) (nomark _))
          (pss_one (ps_ret (pe_lst (pa_cons (pe_gint (T.int 108) rfl) pa_nil)))) pss_nil)
        (pss_cons (ps_if (pt_not (pt_val (pe_callO (ok_is_attribute T) tb (T.glo 26) hr rfl (pa_cons (pv 4) pa_nil))))
          (pss_one (ps_ret (pe_lst (pa_cons (pe_gint (T.int 113) rfl) pa_nil)))) pss_nil)
        (pss_cons (ps_dput hu (pe_fld (pv 0) rfl) (pv 2) (pe_callO (ok_with_attribute T) tb (T.glo 31) hr rfl (pa_cons (pv 5) (pa_cons (pv 3) (pa_cons (pv 4) pa_nil)))) rfl)
        (pss_one (ps_ret (pe_lst (pa_cons pe_int (pa_cons (pe_ix (kIxT (K := K) rfl) (pe_ix (kIxT (K := K) rfl) (pv 5) pe_int (fun _ _ => rfl)) (pv 3) (fun _ _ => rfl)) pa_nil))))))))))), ?_⟩
    obtain ⟨n, i, v⟩ := x
    dsimp only at hg k
    refine ⟨_, rfl, g, _, rfl, SqL.of hg, rfl, _, _, rfl, _, _, rfl, _, _, rfl, rfl, ?_⟩
    refine ⟨_, rfl, _, rfl, _, _, _, _, _, rfl, h1, (T.cls 145), (T.noat 153), F.wk, m.dw, _, rfl, DGet.k (k := kI n) h5, _, rfl, ?_⟩
    cases hf : find s.working n with
    | none =>
      rw [D.none hf]
      refine itT rfl ?_
      have e : s.run (.setAttribute n i v) = (s, .error (-2)) := by simp [Store.run, Store.edit, hf]
      exact lit_done S tt (by rw [e]) (by rw [e] <;> rfl) rfl k
    | some f =>
      obtain ⟨u, e1, e2⟩ := D.some hf
      have fo := G.wk.all f (find_mem hf).1
      have hid := (find_mem hf).2
      rw [e1]
      refine itF rfl ?_
      have gd := DGet.k (k := kI n) h5
      rw [e1] at gd
      refine ⟨_, rfl, _, _, _, _, _, rfl, h1, (T.cls 145), (T.noat 153), F.wk, _, rfl, m.dw, u, rfl, gd, ?_⟩
      refine ⟨_, rfl, _, rfl, _, _, _, _, _, rfl, h1, (T.cls 145), (T.noat 147), F.ac, _, _, rfl, rfl, _, rfl, ?_⟩
      rw [geN]
      by_cases hi : i < s.attributeCount
      · refine itF (decide_eq_false (by omega)) ?_
        refine ⟨_, rfl, v, rfl, _, rfl, ?_⟩
        obtain ⟨old, ho⟩ : ∃ o, f.attributes[i]? = some o := ⟨_, List.getElem?_eq_getElem (by rw [fo.al]; exact hi)⟩
        cases hv : isAttribute v with
        | false =>
          refine itT rfl ?_
          have e : s.run (.setAttribute n i v) = (s, .error (-22)) := by simp [Store.run, Store.edit, hf, ho, hv]
          exact lit_done S tt (by rw [e]) (by rw [e] <;> rfl) rfl k
        | true =>
          refine itF rfl ?_
          have e : s.run (.setAttribute n i v) = ({ s with working := insertFeature { f with attributes := f.attributes.set i v } s.working }, ⟨0, [old]⟩) := by simp [Store.run, Store.edit, hf, ho, hv]
          refine ⟨_, rfl, _, rfl, _, rfl, u, f, i, _, (v, 0), rfl, e2, (show i < f.attributes.length by rw [fo.al]; exact hi), by rw [fo.al]; exact G.ac, fo.v2, rfl, fun H1 y s1 hy => ?_⟩
          have S1 := S.same s1
          have D1 := (D.tup (Tup.of s1)).put G.wk.srt hy
          have hk : kI ({ f with attributes := f.attributes.set i v } : Feature).id = kI n := by rw [show ({ f with attributes := f.attributes.set i v } : Feature).id = n from hid]
          rw [hk] at D1
          have h1s := s1 _ _ h1
          refine ⟨_, rfl, _, _, _, _, _, rfl, h1s, (T.cls 145), (T.noat 153), F.wk, _, rfl, m.dw, _, rfl, DPut.k (k := kI n) (s1 _ _ h5) (small (m := 20) (by rw [D.len G.wk.srt]; exact Nat.le_trans G.wk.len (by decide))), ?_⟩
          have S2 := S1.setW D1
          have f2 : Fr H a m _ m := (Fr.of_same s1).trans (Fr.upd (o := .dK (putK kw (kI n) y)) av_w)
          have t2 := f2.tup S
          obtain ⟨b, p, q, us, rfl, t3, t4, _, _⟩ := Fea.parts (e2.tup t2)
          have ho' : (f.attributes.map V.int)[i]? = some (V.int old) := by rw [List.getElem?_map, ho]; rfl
          refine ⟨_, rfl, b, _, _, _, rfl, rfl, t3, atI_nat (j := 0) rfl, _, rfl, p, _, _, _, rfl, rfl, t4, atI_nat ho', ?_⟩
          exact new_done S tt S2 f2 (by rw [e]) (by rw [e] <;> rfl) rfl k
      · refine itT (decide_eq_true (by omega)) ?_
        have ho : f.attributes[i]? = none := List.getElem?_eq_none (by rw [fo.al]; omega)
        have e : s.run (.setAttribute n i v) = (s, .error (-2)) := by simp [Store.run, Store.edit, hf, ho]
        exact lit_done S tt (by rw [e]) (by rw [e] <;> rfl) rfl k
theorem coord2 (x y : Int) : (isCoord x && isCoord y) = isVertex (x, y) := by
  unfold isCoord isVertex maxCoordinate
  simp [Bool.and_assoc]
theorem sc_move_vertex : FnScope ["store", "given", "feature_id", "index", "x", "y", "feature", "vertices"] ["store", "given"] (defScope s_move_vertex) := ⟨rfl, rfl, rfl, by decide +kernel, rfl, by decide +kernel, by decide +kernel⟩
theorem ok_move_vertex (T : Tx K mg) : Ok P w K mg ("move_vertex", none) ["store", "given"] 2 (spRun K g4i (fun _ => True) (fun x => Operation.moveVertex x.1 x.2.1 x.2.2.1 x.2.2.2)) := by
  refine T.ok (i := 39) (d := d_move_vertex) rfl rfl sc_move_vertex (fun vs H Q E h => ?_) (fun _ _ _ _ _ _ us hl => match us, hl with | [_, _], _ => rfl) (fun base tb cdv A outer s H vs Q E hr h => ?_)
  · obtain ⟨a, s, m, g, x, xs, rfl, _⟩ := h
    rfl
  · obtain ⟨a, s, m, g, x, xs, rfl, S, G, tt, hg, rfl, hx, k⟩ := h
    obtain ⟨⟨dx, fs, h1, F⟩, ⟨kc, h2, C⟩, ⟨kb, h3, B⟩, ⟨kt, h4, T'⟩, ⟨kw, h5, D⟩, A⟩ := id S
    obtain ⟨na, nb, nt, nw⟩ := S.ne_a
    have hu := hu_of hr
    refine ⟨_, (pss_cons (ps_asg (pv 1) (pg_unl rfl (pgs_cons (pg_name (i := 2) sc_move_vertex.nd rfl (by first | exact Or.inl rfl | exact Or.inr rfl)) (pgs_cons (pg_name (i := 3) sc_move_vertex.nd rfl (by first | exact Or.inl rfl | exact Or.inr rfl)) (pgs_cons (pg_name (i := 4) sc_move_vertex.nd rfl (by first | exact Or.inl rfl | exact Or.inr rfl)) (pgs_cons (pg_name (i := 5) sc_move_vertex.nd rfl (by first | exact Or.inl rfl | exact Or.inr rfl)) pgs_nil))))))
        (pss_cons (ps_if (pt_cmp (pc_dnotin hu (pv 2) (pe_fld (pv 0) rfl)))
          (pss_one (ps_ret (pe_lst (pa_cons (pe_gint (T.int 108) rfl) pa_nil)))) pss_nil)
        (pss_cons (ps_set (i := 6) sc_move_vertex.nd rfl (by first | exact Or.inl rfl | exact Or.inr rfl) (pe_dget hu (pe_fld (pv 0) rfl) (pv 2) (fun _ _ => rfl)))
        (pss_cons (ps_set (i := 7) sc_move_vertex.nd rfl (by first | exact Or.inl rfl | exact Or.inr rfl) (pe_ix (kIxT (K := K) rfl) (pv 6) pe_int (fun _ _ => rfl)))
        (pss_cons (ps_if (pt_cmpR op_ge (pv 3) (pe_callB (kLen (K := K) rfl) (by rfl) (T.free 87) PySem.boot_len (pa_cons (pv 7) pa_nil)) (nomark _))
          (pss_one (ps_ret (pe_lst (pa_cons (pe_gint (T.int 108) rfl) pa_nil)))) pss_nil)
        (pss_cons (ps_if (PW.pt (pw_or (pt_not (pt_val (pe_callO (ok_is_coordinate T) tb (T.glo 27) hr rfl (pa_cons (pv 4) pa_nil)))) (pw_or1 (pt_not (pt_val (pe_callO (ok_is_coordinate T) tb (T.glo 27) hr rfl (pa_cons (pv 5) pa_nil)))))))
          (pss_one (ps_ret (pe_lst (pa_cons (pe_gint (T.int 113) rfl) pa_nil)))) pss_nil)
        (pss_cons (ps_dput hu (pe_fld (pv 0) rfl) (pv 2) (pe_callO (ok_with_moved_vertex T) tb (T.glo 32) hr rfl (pa_cons (pv 6) (pa_cons (pv 3) (pa_cons (pe_tup (pa_cons (pv 4) (pa_cons (pv 5) pa_nil))) pa_nil)))) rfl)
        (pss_one (ps_ret (pe_lst (pa_cons pe_int (pa_cons (pe_ix (kIxT (K := K) rfl) (pe_ix (kIxT (K := K) rfl) (pv 7) (pv 3) (fun _ _ => rfl)) pe_int (fun _ _ => rfl)) (pa_cons (pe_ix (kIxT (K := K) rfl) (pe_ix (kIxT (K := K) rfl) (pv 7) (pv 3) (fun _ _ => rfl)) pe_int (fun _ _ => rfl)) pa_nil))))))))))))), ?_⟩
    obtain ⟨n, i, vx, vy⟩ := x
    dsimp only at hg k
    refine ⟨_, rfl, g, _, rfl, SqL.of hg, rfl, _, _, rfl, _, _, rfl, _, _, rfl, _, _, rfl, rfl, ?_⟩
    refine ⟨_, rfl, _, rfl, _, _, _, _, _, rfl, h1, (T.cls 145), (T.noat 153), F.wk, m.dw, _, rfl, DGet.k (k := kI n) h5, _, rfl, ?_⟩
    cases hf : find s.working n with
    | none =>
      rw [D.none hf]
      refine itT rfl ?_
      have e : s.run (.moveVertex n i vx vy) = (s, .error (-2)) := by simp [Store.run, Store.edit, hf]
      exact lit_done S tt (by rw [e]) (by rw [e] <;> rfl) rfl k
    | some f =>
      obtain ⟨u, e1, e2⟩ := D.some hf
      have fo := G.wk.all f (find_mem hf).1
      have hid := (find_mem hf).2
      rw [e1]
      refine itF rfl ?_
      have gd := DGet.k (k := kI n) h5
      rw [e1] at gd
      obtain ⟨b, p, q, us, rfl, t3, t4, t5, t6⟩ := Fea.parts e2
      have lu : us.length = f.vertices.length := by rw [DpAll.len t6, List.length_map]
      refine ⟨_, rfl, _, _, _, _, _, rfl, h1, (T.cls 145), (T.noat 153), F.wk, _, rfl, m.dw, _, rfl, gd, _, rfl, b, _, _, _, rfl, rfl, t3, atI_nat (j := 1) rfl, ?_⟩
      refine ⟨_, rfl, _, rfl, q, _, rfl, .inr t5, _, _, rfl, rfl, _, rfl, ?_⟩
      rw [geN, lu]
      by_cases hi : i < f.vertices.length
      · refine itF (decide_eq_false (by omega)) ?_
        obtain ⟨old, ho⟩ : ∃ o, f.vertices[i]? = some o := ⟨_, List.getElem?_eq_getElem hi⟩
        have bad : isVertex (vx, vy) = false → s.run (.moveVertex n i vx vy) = (s, .error (-22)) := fun hv => by simp [Store.run, Store.edit, hf, ho, hv]
        refine ⟨_, rfl, vx, rfl, _, rfl, ?_⟩
        cases hx1 : isCoord vx with
        | false =>
          refine itT (c := !false) rfl ?_
          have e := bad (by rw [← coord2, hx1]; rfl)
          exact lit_done S tt (by rw [e]) (by rw [e] <;> rfl) rfl k
        | true =>
          refine itF (c := !true) rfl ?_
          refine ⟨_, rfl, vy, rfl, _, rfl, ?_⟩
          cases hy1 : isCoord vy with
          | false =>
            refine itT (c := !false) rfl ?_
            have e := bad (by rw [← coord2, hx1, hy1]; rfl)
            exact lit_done S tt (by rw [e]) (by rw [e] <;> rfl) rfl k
          | true =>
            refine itF (c := !true) rfl ?_
            have hv : isVertex (vx, vy) = true := by rw [← coord2, hx1, hy1]; rfl
            have e : s.run (.moveVertex n i vx vy) = ({ s with working := insertFeature { f with vertices := f.vertices.set i (vx, vy) } s.working }, ⟨0, [old.1, old.2]⟩) := by simp [Store.run, Store.edit, hf, ho, hv]
            refine ⟨_, rfl, _, rfl, _, rfl, _, rfl, by show 2 ≤ sizeLine; decide, fun pv npv => ?_⟩
            have s0 := same_upd (o := .tup [V.int vx, V.int vy]) npv
            refine ⟨_, f, i, _, (vx, vy), rfl, e2.tup (Tup.of s0), hi, by rw [fo.al]; exact G.ac, fo.v2, ⟨pv, rfl, SqT.of upd_same⟩, fun H1 y s1' hy => ?_⟩
            have s1 := s0.trans s1'
            have S1 := S.same s1
            have D1 := (D.tup (Tup.of s1)).put G.wk.srt hy
            have hk : kI ({ f with vertices := f.vertices.set i (vx, vy) } : Feature).id = kI n := by rw [show ({ f with vertices := f.vertices.set i (vx, vy) } : Feature).id = n from hid]
            rw [hk] at D1
            have h1s := s1 _ _ h1
            refine ⟨_, rfl, _, _, _, _, _, rfl, h1s, (T.cls 145), (T.noat 153), F.wk, _, rfl, m.dw, _, rfl, DPut.k (k := kI n) (s1 _ _ h5) (small (m := 20) (by rw [D.len G.wk.srt]; exact Nat.le_trans G.wk.len (by decide))), ?_⟩
            have S2 := S1.setW D1
            have f2 : Fr H a m _ m := (Fr.of_same s1).trans (Fr.upd (o := .dK (putK kw (kI n) y)) av_w)
            have t2 := f2.tup S
            obtain ⟨ov, eo, od⟩ := DpAll.at t6 (show (f.vertices.map dV)[i]? = some (dV old) by rw [List.getElem?_map, ho]; rfl)
            obtain ⟨c, rfl, tc⟩ := dp_vert od
            have t5' := t5.tup t2
            have tc' := tc.tup t2
            refine ⟨_, rfl, _, rfl, q, _, _, _, rfl, rfl, t5', atI_nat eo, c, _, _, _, rfl, rfl, tc', atI_nat (j := 0) rfl, _, rfl, _, rfl, q, _, _, _, rfl, rfl, t5', atI_nat eo, c, _, _, _, rfl, rfl, tc', atI_nat (j := 1) rfl, ?_⟩
            exact new_done S tt S2 f2 (by rw [e]) (by rw [e] <;> rfl) rfl k
      · refine itT (decide_eq_true (by omega)) ?_
        have ho : f.vertices[i]? = none := List.getElem?_eq_none (by omega)
        have e : s.run (.moveVertex n i vx vy) = (s, .error (-2)) := by simp [Store.run, Store.edit, hf, ho]
        exact lit_done S tt (by rw [e]) (by rw [e] <;> rfl) rfl k
end Pv
end
section
set_option Elab.async false
set_option linter.all false
set_option maxRecDepth 100000
set_option maxHeartbeats 2000000
namespace Pv
open PySem PySem.Spec PyProof.Rows L2 Kvg9
open L2 (Dp DpAll)
variable {P : Program} {w : World} {K : PySem.W.Frag} {mg : Str → Option Value}
theorem gtN {a b : Nat} : decide (((a : Nat) : Int) > ((b : Nat) : Int)) = decide (b < a) := by
  by_cases h : b < a
  · rw [decide_eq_true h, decide_eq_true (show ((a : Nat) : Int) > ((b : Nat) : Int) by omega)]
  · rw [decide_eq_false h, decide_eq_false (show ¬ ((a : Nat) : Int) > ((b : Nat) : Int) by omega)]
theorem edit_some {s : Store} {n : Nat} {f : Feature} (h : find s.working n = some f) (g : Feature → Except Int (Feature × Response)) : s.edit n g = match g f with
    | .error code => (s, .error code)
    | .ok (g, r) => ({ s with working := insertFeature g s.working }, r) := by
  unfold Store.edit
  rw [h]
  rfl
theorem sc_insert_vertex : FnScope ["store", "given", "feature_id", "index", "x", "y", "feature", "vertex_count"] ["store", "given"] (defScope s_insert_vertex) := ⟨rfl, rfl, rfl, by decide +kernel, rfl, by decide +kernel, by decide +kernel⟩
theorem ok_insert_vertex (T : Tx K mg) : Ok P w K mg ("insert_vertex", none) ["store", "given"] 2 (spRun K g4i (fun _ => True) (fun x => Operation.insertVertex x.1 x.2.1 x.2.2.1 x.2.2.2)) := by
  refine T.ok (i := 40) (d := d_insert_vertex) rfl rfl sc_insert_vertex (fun vs H Q E h => ?_) (fun _ _ _ _ _ _ us hl => match us, hl with | [_, _], _ => rfl) (fun base tb cdv A outer s H vs Q E hr h => ?_)
  · obtain ⟨a, s, m, g, x, xs, rfl, _⟩ := h
    rfl
  · obtain ⟨a, s, m, g, x, xs, rfl, S, G, tt, hg, rfl, hx, k⟩ := h
    obtain ⟨⟨dx, fs, h1, F⟩, ⟨kc, h2, C⟩, ⟨kb, h3, B⟩, ⟨kt, h4, T'⟩, ⟨kw, h5, D⟩, A⟩ := id S
    obtain ⟨na, nb, nt, nw⟩ := S.ne_a
    have hu := hu_of hr
    refine ⟨_, (pss_cons (ps_asg (pv 1) (pg_unl rfl (pgs_cons (pg_name (i := 2) sc_insert_vertex.nd rfl (by first | exact Or.inl rfl | exact Or.inr rfl)) (pgs_cons (pg_name (i := 3) sc_insert_vertex.nd rfl (by first | exact Or.inl rfl | exact Or.inr rfl)) (pgs_cons (pg_name (i := 4) sc_insert_vertex.nd rfl (by first | exact Or.inl rfl | exact Or.inr rfl)) (pgs_cons (pg_name (i := 5) sc_insert_vertex.nd rfl (by first | exact Or.inl rfl | exact Or.inr rfl)) pgs_nil))))))
        (pss_cons (ps_if (pt_cmp (pc_dnotin hu (pv 2) (pe_fld (pv 0) rfl)))
          (pss_one (ps_ret (pe_lst (pa_cons (pe_gint (T.int 108) rfl) pa_nil)))) pss_nil)
        (pss_cons (ps_set (i := 6) sc_insert_vertex.nd rfl (by first | exact Or.inl rfl | exact Or.inr rfl) (pe_dget hu (pe_fld (pv 0) rfl) (pv 2) (fun _ _ => rfl)))
        (pss_cons (ps_set (i := 7) sc_insert_vertex.nd rfl (by first | exact Or.inl rfl | exact Or.inr rfl) (pe_callB (kLen (K := K) rfl) (by rfl) (T.free 87) PySem.boot_len (pa_cons (pe_ix (kIxT (K := K) rfl) (pv 6) pe_int (fun _ _ => rfl)) pa_nil)))
        (pss_cons (ps_if (pt_cmpR op_gt (pv 3) (pv 7) (nomark _))
          (pss_one (ps_ret (pe_lst (pa_cons (pe_gint (T.int 108) rfl) pa_nil)))) pss_nil)
        (pss_cons (ps_if (PW.pt (pw_or (pt_not (pt_val (pe_callO (ok_is_coordinate T) tb (T.glo 27) hr rfl (pa_cons (pv 4) pa_nil)))) (pw_or1 (pt_not (pt_val (pe_callO (ok_is_coordinate T) tb (T.glo 27) hr rfl (pa_cons (pv 5) pa_nil)))))))
          (pss_one (ps_ret (pe_lst (pa_cons (pe_gint (T.int 113) rfl) pa_nil)))) pss_nil)
        (pss_cons (ps_if (pt_cmpR op_ge (pv 7) (pe_gint (T.int 102) rfl) (nomark _))
          (pss_one (ps_ret (pe_lst (pa_cons (pe_gint (T.int 114) rfl) pa_nil)))) pss_nil)
        (pss_cons (ps_dput hu (pe_fld (pv 0) rfl) (pv 2) (pe_callO (ok_with_inserted_vertex T) tb (T.glo 33) hr rfl (pa_cons (pv 6) (pa_cons (pv 3) (pa_cons (pe_tup (pa_cons (pv 4) (pa_cons (pv 5) pa_nil))) pa_nil)))) rfl)
        (pss_one (ps_ret (pe_lst (pa_cons (pe_op op_add (pv 7) pe_int) pa_nil)))))))))))), ?_⟩
    obtain ⟨n, i, vx, vy⟩ := x
    dsimp only at hg k
    refine ⟨_, rfl, g, _, rfl, SqL.of hg, rfl, _, _, rfl, _, _, rfl, _, _, rfl, _, _, rfl, rfl, ?_⟩
    refine ⟨_, rfl, _, rfl, _, _, _, _, _, rfl, h1, (T.cls 145), (T.noat 153), F.wk, m.dw, _, rfl, DGet.k (k := kI n) h5, _, rfl, ?_⟩
    cases hf : find s.working n with
    | none =>
      rw [D.none hf]
      refine itT rfl ?_
      have e : s.run (.insertVertex n i vx vy) = (s, .error (-2)) := by simp [Store.run, Store.edit, hf]
      exact lit_done S tt (by rw [e]) (by rw [e] <;> rfl) rfl k
    | some f =>
      obtain ⟨u, e1, e2⟩ := D.some hf
      have fo := G.wk.all f (find_mem hf).1
      have hid := (find_mem hf).2
      rw [e1]
      refine itF rfl ?_
      have gd := DGet.k (k := kI n) h5
      rw [e1] at gd
      obtain ⟨b, p, q, us, rfl, t3, t4, t5, t6⟩ := Fea.parts e2
      have lu : us.length = f.vertices.length := by rw [DpAll.len t6, List.length_map]
      have eu := edit_some hf (fun f => if f.vertices.length < i then .error (-2) else if isVertex (vx, vy) = false then .error (-22) else if maxVertices ≤ f.vertices.length then .error (-28) else .ok ({ f with vertices := f.vertices.take i ++ (vx, vy) :: f.vertices.drop i }, .number (f.vertices.length + 1)))
      have er : s.run (.insertVertex n i vx vy) = s.edit n (fun f => if f.vertices.length < i then .error (-2) else if isVertex (vx, vy) = false then .error (-22) else if maxVertices ≤ f.vertices.length then .error (-28) else .ok ({ f with vertices := f.vertices.take i ++ (vx, vy) :: f.vertices.drop i }, .number (f.vertices.length + 1))) := rfl
      rw [eu] at er
      refine ⟨_, rfl, _, _, _, _, _, rfl, h1, (T.cls 145), (T.noat 153), F.wk, _, rfl, m.dw, _, rfl, gd, _, rfl, b, _, _, _, rfl, rfl, t3, atI_nat (j := 1) rfl, q, _, rfl, .inr t5, ?_⟩
      refine ⟨_, rfl, _, rfl, _, _, rfl, rfl, _, rfl, ?_⟩
      rw [gtN, lu]
      by_cases hi : f.vertices.length < i
      · refine itT (decide_eq_true hi) ?_
        have e : s.run (.insertVertex n i vx vy) = (s, .error (-2)) := by rw [er, if_pos hi]
        exact lit_done S tt (by rw [e]) (by rw [e] <;> rfl) rfl k
      · refine itF (decide_eq_false hi) ?_
        rw [if_neg hi] at er
        refine ⟨_, rfl, vx, rfl, _, rfl, ?_⟩
        cases hx1 : isCoord vx with
        | false =>
          refine itT (c := !false) rfl ?_
          rw [if_pos (show isVertex (vx, vy) = false by rw [← coord2, hx1]; rfl)] at er
          exact lit_done S tt (by rw [er]) (by rw [er] <;> rfl) rfl k
        | true =>
          refine itF (c := !true) rfl ?_
          refine ⟨_, rfl, vy, rfl, _, rfl, ?_⟩
          cases hy1 : isCoord vy with
          | false =>
            refine itT (c := !false) rfl ?_
            rw [if_pos (show isVertex (vx, vy) = false by rw [← coord2, hx1, hy1]; rfl)] at er
            exact lit_done S tt (by rw [er]) (by rw [er] <;> rfl) rfl k
          | true =>
            refine itF (c := !true) rfl ?_
            have hv : isVertex (vx, vy) = true := by rw [← coord2, hx1, hy1]; rfl
            rw [if_neg (by rw [hv]; simp)] at er
            refine ⟨_, rfl, _, _, rfl, rfl, _, rfl, ?_⟩
            by_cases hm : 12 ≤ f.vertices.length
            · refine itT (decide_eq_true (show ((f.vertices.length : Nat) : Int) ≥ 12 by omega)) ?_
              rw [if_pos (show maxVertices ≤ f.vertices.length from hm)] at er
              exact lit_done S tt (by rw [er]) (by rw [er] <;> rfl) rfl k
            refine itF (decide_eq_false (show ¬ ((f.vertices.length : Nat) : Int) ≥ 12 by omega)) ?_
            rw [if_neg (show ¬ maxVertices ≤ f.vertices.length from hm)] at er
            refine ⟨_, rfl, _, rfl, _, rfl, _, rfl, by show 2 ≤ sizeLine; decide, fun pv npv => ?_⟩
            have s0 := same_upd (o := .tup [V.int vx, V.int vy]) npv
            refine ⟨_, f, i, _, (vx, vy), rfl, e2.tup (Tup.of s0), (show i ≤ f.vertices.length by omega), by rw [fo.al]; exact G.ac, fo.v2, ⟨pv, rfl, SqT.of upd_same⟩, fun H1 y s1' hy => ?_⟩
            have s1 := s0.trans s1'
            have S1 := S.same s1
            have D1 := (D.tup (Tup.of s1)).put G.wk.srt hy
            have hk : kI ({ f with vertices := f.vertices.take i ++ (vx, vy) :: f.vertices.drop i } : Feature).id = kI n := by rw [show ({ f with vertices := f.vertices.take i ++ (vx, vy) :: f.vertices.drop i } : Feature).id = n from hid]
            rw [hk] at D1
            have h1s := s1 _ _ h1
            refine ⟨_, rfl, _, _, _, _, _, rfl, h1s, (T.cls 145), (T.noat 153), F.wk, _, rfl, m.dw, _, rfl, DPut.k (k := kI n) (s1 _ _ h5) (small (m := 20) (by rw [D.len G.wk.srt]; exact Nat.le_trans G.wk.len (by decide))), ?_⟩
            have S2 := S1.setW D1
            have f2 : Fr H a m _ m := (Fr.of_same s1).trans (Fr.upd (o := .dK (putK kw (kI n) y)) av_w)
            refine ⟨_, rfl, _, _, rfl, rfl, ?_⟩
            exact new_done S tt S2 f2 (by rw [er]) (by rw [er] <;> rfl) rfl k
theorem sc_remove_vertex : FnScope ["store", "given", "feature_id", "index", "feature", "vertex_count"] ["store", "given"] (defScope s_remove_vertex) := ⟨rfl, rfl, rfl, by decide +kernel, rfl, by decide +kernel, by decide +kernel⟩
theorem ok_remove_vertex (T : Tx K mg) : Ok P w K mg ("remove_vertex", none) ["store", "given"] 2 (spRun K g2 (fun _ => True) (fun x => Operation.removeVertex x.1 x.2)) := by
  refine T.ok (i := 41) (d := d_remove_vertex) rfl rfl sc_remove_vertex (fun vs H Q E h => ?_) (fun _ _ _ _ _ _ us hl => match us, hl with | [_, _], _ => rfl) (fun base tb cdv A outer s H vs Q E hr h => ?_)
  · obtain ⟨a, s, m, g, x, xs, rfl, _⟩ := h
    rfl
  · obtain ⟨a, s, m, g, x, xs, rfl, S, G, tt, hg, rfl, hx, k⟩ := h
    obtain ⟨⟨dx, fs, h1, F⟩, ⟨kc, h2, C⟩, ⟨kb, h3, B⟩, ⟨kt, h4, T'⟩, ⟨kw, h5, D⟩, A⟩ := id S
    obtain ⟨na, nb, nt, nw⟩ := S.ne_a
    have hu := hu_of hr
    refine ⟨_, (pss_cons (ps_asg (pv 1) (pg_unl rfl (pgs_cons (pg_name (i := 2) sc_remove_vertex.nd rfl (by first | exact Or.inl rfl | exact Or.inr rfl)) (pgs_cons (pg_name (i := 3) sc_remove_vertex.nd rfl (by first | exact Or.inl rfl | exact Or.inr rfl)) pgs_nil))))
        (pss_cons (ps_if (pt_cmp (pc_dnotin hu (pv 2) (pe_fld (pv 0) rfl)))
          (pss_one (ps_ret (pe_lst (pa_cons (pe_gint (T.int 108) rfl) pa_nil)))) pss_nil)
        (pss_cons (ps_set (i := 4) sc_remove_vertex.nd rfl (by first | exact Or.inl rfl | exact Or.inr rfl) (pe_dget hu (pe_fld (pv 0) rfl) (pv 2) (fun _ _ => rfl)))
        (pss_cons (ps_set (i := 5) sc_remove_vertex.nd rfl (by first | exact Or.inl rfl | exact Or.inr rfl) (pe_callB (kLen (K := K) rfl) (by rfl) (T.free 87) PySem.boot_len (pa_cons (pe_ix (kIxT (K := K) rfl) (pv 4) pe_int (fun _ _ => rfl)) pa_nil)))
        (pss_cons (ps_if (pt_cmpR op_ge (pv 3) (pv 5) (nomark _))
          (pss_one (ps_ret (pe_lst (pa_cons (pe_gint (T.int 108) rfl) pa_nil)))) pss_nil)
        (pss_cons (ps_if (pt_cmpR op_eq (pv 5) pe_int (nomark _))
          (pss_one (ps_ret (pe_lst (pa_cons (pe_gint (T.int 115) rfl) pa_nil)))) pss_nil)
        (pss_cons (ps_dput hu (pe_fld (pv 0) rfl) (pv 2) (pe_callO (ok_without_vertex T) tb (T.glo 34) hr rfl (pa_cons (pv 4) (pa_cons (pv 3) pa_nil))) rfl)
        (pss_one (ps_ret (pe_lst (pa_cons (pe_op op_sub (pv 5) pe_int) pa_nil))))))))))), ?_⟩
    obtain ⟨n, i⟩ := x
    dsimp only at hg k
    refine ⟨_, rfl, g, _, rfl, SqL.of hg, rfl, _, _, rfl, _, _, rfl, rfl, ?_⟩
    refine ⟨_, rfl, _, rfl, _, _, _, _, _, rfl, h1, (T.cls 145), (T.noat 153), F.wk, m.dw, _, rfl, DGet.k (k := kI n) h5, _, rfl, ?_⟩
    cases hf : find s.working n with
    | none =>
      rw [D.none hf]
      refine itT rfl ?_
      have e : s.run (.removeVertex n i) = (s, .error (-2)) := by simp [Store.run, Store.edit, hf]
      exact lit_done S tt (by rw [e]) (by rw [e] <;> rfl) rfl k
    | some f =>
      obtain ⟨u, e1, e2⟩ := D.some hf
      have fo := G.wk.all f (find_mem hf).1
      have hid := (find_mem hf).2
      rw [e1]
      refine itF rfl ?_
      have gd := DGet.k (k := kI n) h5
      rw [e1] at gd
      obtain ⟨b, p, q, us, rfl, t3, t4, t5, t6⟩ := Fea.parts e2
      have lu : us.length = f.vertices.length := by rw [DpAll.len t6, List.length_map]
      have er : s.run (.removeVertex n i) = s.edit n (fun f => if f.vertices.length ≤ i then .error (-2) else if f.vertices.length = 1 then .error (-33) else .ok ({ f with vertices := f.vertices.eraseIdx i }, .number (f.vertices.length - 1))) := rfl
      rw [edit_some hf] at er
      refine ⟨_, rfl, _, _, _, _, _, rfl, h1, (T.cls 145), (T.noat 153), F.wk, _, rfl, m.dw, _, rfl, gd, _, rfl, b, _, _, _, rfl, rfl, t3, atI_nat (j := 1) rfl, q, _, rfl, .inr t5, ?_⟩
      refine ⟨_, rfl, _, rfl, _, _, rfl, rfl, _, rfl, ?_⟩
      rw [geN, lu]
      by_cases hi : f.vertices.length ≤ i
      · refine itT (decide_eq_true hi) ?_
        rw [if_pos hi] at er
        exact lit_done S tt (by rw [er]) (by rw [er] <;> rfl) rfl k
      refine itF (decide_eq_false hi) ?_
      rw [if_neg hi] at er
      refine ⟨_, rfl, rfl, _, rfl, ?_⟩
      by_cases h1v : f.vertices.length = 1
      · refine itT (decide_eq_true (congrArg V.int (by omega))) ?_
        rw [if_pos h1v] at er
        exact lit_done S tt (by rw [er]) (by rw [er] <;> rfl) rfl k
      refine itF (decide_eq_false fun z => h1v (by have := V.int.inj z; omega)) ?_
      rw [if_neg h1v] at er
      refine ⟨_, rfl, _, rfl, _, f, i, rfl, e2, (show i < f.vertices.length by omega), fo.v2, fun H1 y s1 hy => ?_⟩
      have S1 := S.same s1
      have D1 := (D.tup (Tup.of s1)).put G.wk.srt hy
      have hk : kI ({ f with vertices := f.vertices.eraseIdx i } : Feature).id = kI n := by rw [show ({ f with vertices := f.vertices.eraseIdx i } : Feature).id = n from hid]
      rw [hk] at D1
      have h1s := s1 _ _ h1
      refine ⟨_, rfl, _, _, _, _, _, rfl, h1s, (T.cls 145), (T.noat 153), F.wk, _, rfl, m.dw, _, rfl, DPut.k (k := kI n) (s1 _ _ h5) (small (m := 20) (by rw [D.len G.wk.srt]; exact Nat.le_trans G.wk.len (by decide))), ?_⟩
      have S2 := S1.setW D1
      have f2 : Fr H a m _ m := (Fr.of_same s1).trans (Fr.upd (o := .dK (putK kw (kI n) y)) av_w)
      refine ⟨_, rfl, _, _, rfl, rfl, ?_⟩
      refine new_done (l := [((f.vertices.length - 1 : Nat) : Int)]) S tt S2 f2 (by rw [er]) (by rw [er] <;> rfl) ?_ k
      have := fo.v1
      exact congrArg (fun z => [V.int z]) (by omega)
/-- put_feature's arguments: an id, two rows -/
def gPut : Nat × List Int × List Int → List V → Hp → Prop := fun x xs H => ∃ b c, xs = [V.int (x.1 : Nat), .ref b, .ref c] ∧ H b = some (.lst (x.2.1.map V.int)) ∧ H c = some (.lst (x.2.2.map V.int))
theorem vert_all (l : List Int) (h : l.length % 2 = 0) : l.all isCoord = (Kvg9.pairsOf l).all isVertex := by
  match l, h with
  | [], _ => rfl
  | [_], h => simp at h
  | x :: y :: l, h =>
    have ih := vert_all l (by simp at h; omega)
    show (isCoord x && (isCoord y && l.all isCoord)) = (isVertex (x, y) && (Kvg9.pairsOf l).all isVertex)
    rw [ih, ← coord2, Bool.and_assoc]
theorem sc_put_feature : FnScope ["store", "given", "feature_id", "attributes", "coordinates", "is_replaced"] ["store", "given"] (defScope s_put_feature) := ⟨rfl, rfl, rfl, by decide +kernel, rfl, by decide +kernel, by decide +kernel⟩
theorem ok_put_feature (T : Tx K mg) : Ok P w K mg ("put_feature", none) ["store", "given"] 3 (spRun K gPut (fun x => x.2.1.length ≤ 30 ∧ x.2.2.length ≤ 30) (fun x => Operation.putFeature x.1 x.2.1 x.2.2)) := by
  refine T.ok (i := 36) (d := d_put_feature) rfl rfl sc_put_feature (fun vs H Q E h => ?_) (fun _ _ _ _ _ _ us hl => match us, hl with | [_, _], _ => rfl) (fun base tb cdv A outer s H vs Q E hr h => ?_)
  · obtain ⟨a, s, m, g, x, xs, rfl, _⟩ := h
    rfl
  · obtain ⟨a, s, m, g, x, xs, rfl, S, G, tt, hg, hgv, hx, k⟩ := h
    obtain ⟨⟨dx, fs, h1, F⟩, ⟨kc, h2, C⟩, ⟨kb, h3, B⟩, ⟨kt, h4, T'⟩, ⟨kw, h5, D⟩, A⟩ := id S
    obtain ⟨n, la, lc⟩ := x
    obtain ⟨b, c, rfl, hb, hc⟩ := hgv
    obtain ⟨l30, l30'⟩ := hx
    dsimp only at hg k hb hc l30 l30'
    have er : s.run (.putFeature n la lc) = (if 65535 < n ∨ la.length ≠ s.attributeCount ∨ la.all isAttribute = false ∨ lc.length % 2 ≠ 0 ∨ Kvg9.pairsOf lc = [] ∨ maxVertices < (Kvg9.pairsOf lc).length ∨ (Kvg9.pairsOf lc).all isVertex = false then (s, .error (-22))
        else if find s.working n = none ∧ maxFeatures ≤ s.working.length then (s, .error (-28)) else ({ s with working := insertFeature ⟨n, la, Kvg9.pairsOf lc⟩ s.working }, .number (if (find s.working n).isSome then 1 else 0))) := rfl
    have hu := hu_of hr
    refine ⟨_, (pss_cons (ps_asg (pv 1) (pg_unl rfl (pgs_cons (pg_name (i := 2) sc_put_feature.nd rfl (by first | exact Or.inl rfl | exact Or.inr rfl)) (pgs_cons (pg_name (i := 3) sc_put_feature.nd rfl (by first | exact Or.inl rfl | exact Or.inr rfl)) (pgs_cons (pg_name (i := 4) sc_put_feature.nd rfl (by first | exact Or.inl rfl | exact Or.inr rfl)) pgs_nil)))))
        (pss_cons (ps_if (pt_cmpR op_gt (pv 2) (pe_gint (T.int 99) rfl) (nomark _))
          (pss_one (ps_ret (pe_lst (pa_cons (pe_gint (T.int 113) rfl) pa_nil)))) pss_nil)
        (pss_cons (ps_if (PW.pt (pw_or (pt_not (pt_val (pe_callO (ok_are_attributes T) tb (T.glo 28) hr rfl (pa_cons (pv 3) (pa_cons (pe_fld (pv 0) rfl) pa_nil))))) (pw_or1 (pt_not (pt_val (pe_callO (ok_are_vertices T) tb (T.glo 29) hr rfl (pa_cons (pv 4) pa_nil)))))))
          (pss_one (ps_ret (pe_lst (pa_cons (pe_gint (T.int 113) rfl) pa_nil)))) pss_nil)
        (pss_cons (ps_set (i := 5) sc_put_feature.nd rfl (by first | exact Or.inl rfl | exact Or.inr rfl) (pe_cmp (pc_din hu (pv 2) (pe_fld (pv 0) rfl)) rfl))
        (pss_cons (ps_if (PW.pt (pw_and (pt_not (pt_val (pv 5))) (pw_and1 (pt_cmpR op_ge (pe_callB call_lenD (by rfl) (T.free 87) PySem.boot_len (pa_cons (pe_fld (pv 0) rfl) pa_nil)) (pe_gint (T.int 103) rfl) (nomark _)))))
          (pss_one (ps_ret (pe_lst (pa_cons (pe_gint (T.int 114) rfl) pa_nil)))) pss_nil)
        (pss_cons (ps_dput hu (pe_fld (pv 0) rfl) (pv 2) (pe_callO (ok_make_feature T) tb (T.glo 30) hr rfl (pa_cons (pv 3) (pa_cons (pv 4) pa_nil))) rfl)
        (pss_one (ps_ret (pe_lst (pa_cons (pe_ifExp (pt_val (pv 5)) pe_int pe_int) pa_nil)))))))))), ?_⟩
    refine ⟨_, rfl, g, _, rfl, SqL.of hg, rfl, _, _, rfl, _, _, rfl, _, _, rfl, rfl, ?_⟩
    refine ⟨_, rfl, _, _, rfl, rfl, _, rfl, ?_⟩
    by_cases hn : 65535 < n
    · refine itT (decide_eq_true (show ((n : Nat) : Int) > 65535 by omega)) ?_
      rw [if_pos (.inl hn)] at er
      exact lit_done S tt (by rw [er]) (by rw [er] <;> rfl) rfl k
    refine itF (decide_eq_false (show ¬ ((n : Nat) : Int) > 65535 by omega)) ?_
    refine ⟨_, rfl, _, rfl, _, _, _, _, _, rfl, h1, (T.cls 145), (T.noat 147), F.ac, b, la, _, rfl, SqL.of hb, Nat.le_trans l30 (by decide), fun H1 s1 => ⟨_, rfl, ?_⟩⟩
    have bad : ∀ H1 : Hp, Same H H1 → (65535 < n ∨ la.length ≠ s.attributeCount ∨ la.all isAttribute = false ∨ lc.length % 2 ≠ 0 ∨ Kvg9.pairsOf lc = [] ∨ maxVertices < (Kvg9.pairsOf lc).length ∨ (Kvg9.pairsOf lc).all isVertex = false) → [V.int (-22)].length ≤ sizeLine ∧ ∀ p, H1 p = none → Q (.ref p) (upd H1 p (.lst [V.int (-22)])) := fun H1 s1 hbad => by
      rw [if_pos hbad] at er
      exact new_done S tt (S.same s1) (Fr.of_same s1) (by rw [er]) (by rw [er] <;> rfl) rfl k
    cases q1 : decide ((la.length : Int) = ((s.attributeCount : Nat) : Int)) && la.all isAttribute with
    | false =>
      refine itT (c := !false) rfl ?_
      refine bad H1 s1 ?_
      rcases Bool.and_eq_false_iff.mp q1 with q | q
      · exact .inr (.inl fun z => of_decide_eq_false q (by rw [z]))
      · exact .inr (.inr (.inl q))
    | true =>
      refine itF (c := !true) rfl ?_
      obtain ⟨q2, q3⟩ := Bool.and_eq_true_iff.mp q1
      have q2 : la.length = s.attributeCount := by have := of_decide_eq_true q2; omega
      refine ⟨_, rfl, c, lc, rfl, SqL.of (s1 _ _ hc), Nat.le_trans l30' (by decide), fun H2 s2 => ⟨_, rfl, ?_⟩⟩
      have s12 := s1.trans s2
      have hpl := pairs_len (l := lc)
      cases q4 : decide (lc.length % 2 = 0) && decide (1 ≤ lc.length / 2) && decide (lc.length / 2 ≤ 12) && lc.all isCoord with
      | false =>
        refine itT (c := !false) rfl ?_
        refine bad H2 s12 (.inr (.inr (.inr ?_)))
        by_cases e1 : lc.length % 2 = 0
        · rw [decide_eq_true e1, Bool.true_and] at q4
          rw [vert_all lc e1] at q4
          by_cases e2 : 1 ≤ lc.length / 2
          · rw [decide_eq_true e2, Bool.true_and] at q4
            by_cases e3 : lc.length / 2 ≤ 12
            · rw [decide_eq_true e3, Bool.true_and] at q4
              exact .inr (.inr (.inr q4))
            · exact .inr (.inr (.inl (by rw [hpl]; show 12 < _; omega)))
          · exact .inr (.inl (List.eq_nil_of_length_eq_zero (by rw [hpl]; omega)))
        · exact .inl e1
      | true =>
        refine itF (c := !true) rfl ?_
        obtain ⟨q5, q6⟩ := Bool.and_eq_true_iff.mp q4
        obtain ⟨q7, q8⟩ := Bool.and_eq_true_iff.mp q5
        obtain ⟨q9, q10⟩ := Bool.and_eq_true_iff.mp q7
        have q9 := of_decide_eq_true q9
        have q10 := of_decide_eq_true q10
        have q8 := of_decide_eq_true q8
        rw [vert_all lc q9] at q6
        have good : ¬ (65535 < n ∨ la.length ≠ s.attributeCount ∨ la.all isAttribute = false ∨ lc.length % 2 ≠ 0 ∨ Kvg9.pairsOf lc = [] ∨ maxVertices < (Kvg9.pairsOf lc).length ∨ (Kvg9.pairsOf lc).all isVertex = false) := by
          rintro (z | z | z | z | z | z | z)
          · exact hn z
          · exact z q2
          · rw [q3] at z; cases z
          · exact z q9
          · rw [z] at hpl; simp at hpl; omega
          · have : 12 < (Kvg9.pairsOf lc).length := z
            omega
          · rw [q6] at z; cases z
        rw [if_neg good] at er
        have S2 := S.same s12
        have h1s := s12 _ _ h1
        have h5s := s12 _ _ h5
        have D2 := D.tup (Tup.of s12)
        have hlw := D.len G.wk.srt
        refine ⟨_, rfl, _, rfl, _, _, _, _, _, rfl, h1s, (T.cls 145), (T.noat 153), F.wk, m.dw, _, rfl, DGet.k (k := kI n) h5s, ?_⟩
        have fin : ∀ H3 : Hp, Same H2 H3 → ∀ y, Fea K H3 y ⟨n, la, Kvg9.pairsOf lc⟩ → ¬ (find s.working n = none ∧ maxFeatures ≤ s.working.length) → ∀ z : Int, z = (if (find s.working n).isSome then 1 else 0) → [V.int z].length ≤ sizeLine ∧ ∀ p, upd H3 m.dw (.dK (putK kw (kI n) y)) p = none → Q (.ref p) (upd (upd H3 m.dw (.dK (putK kw (kI n) y))) p (.lst [V.int z])) := by
          intro H3 s3 y hy hno z hz
          rw [if_neg hno] at er
          have s4 := s12.trans s3
          have D3 := (D.tup (Tup.of s4)).put G.wk.srt hy
          refine new_done (l := [z]) S tt ((S.same s4).setW D3) ((Fr.of_same s4).trans (Fr.upd av_w)) (by rw [er]) ?_ rfl k
          rw [er, hz]
          show [(((if (find s.working n).isSome then 1 else 0 : Nat) : Nat) : Int)] = _
          split <;> rfl
        have put : ∀ H3 : Hp, Same H2 H3 → H3 m.dw = some (.dK kw) := fun H3 s3 => s3 _ _ h5s
        cases hf : find s.working n with
        | some f =>
          obtain ⟨u, e1, e2⟩ := D2.some hf
          rw [e1]
          refine ⟨_, rfl, _, rfl, ?_⟩
          refine itF (c := !true) rfl ?_
          refine ⟨_, rfl, _, rfl, b, c, la, lc, rfl, SqL.of (s12 _ _ hb), SqL.of (s12 _ _ hc), q9, Nat.le_trans l30' (by decide), fun H3 y n' s3 hy => ?_⟩
          have h1t := s3 _ _ h1s
          refine ⟨_, rfl, _, _, _, _, _, rfl, h1t, (T.cls 145), (T.noat 153), F.wk, _, rfl, m.dw, _, rfl, DPut.k (k := kI n) (put H3 s3) (small (m := 20) (by rw [hlw]; exact Nat.le_trans G.wk.len (by decide))), ?_⟩
          refine ⟨_, rfl, _, rfl, ?_⟩
          refine itT rfl ?_
          exact fin H3 s3 y hy (by rw [hf]; rintro ⟨z, _⟩; cases z) 1 (by rw [hf]; rfl)
        | none =>
          rw [D2.none hf]
          refine ⟨_, rfl, _, rfl, ?_⟩
          refine itT (c := !false) rfl ?_
          refine ⟨_, rfl, _, _, _, _, _, rfl, h1s, (T.cls 145), (T.noat 153), F.wk, m.dw, _, rfl, h5s, _, _, rfl, rfl, _, rfl, ?_⟩
          by_cases h16 : 16 ≤ s.working.length
          · refine itT (decide_eq_true (show ((kw.length : Nat) : Int) ≥ 16 by omega)) ?_
            rw [if_pos ⟨hf, h16⟩] at er
            exact new_done S tt S2 (Fr.of_same s12) (by rw [er]) (by rw [er] <;> rfl) rfl k
          refine itF (decide_eq_false (show ¬ ((kw.length : Nat) : Int) ≥ 16 by omega)) ?_
          refine ⟨_, rfl, _, rfl, b, c, la, lc, rfl, SqL.of (s12 _ _ hb), SqL.of (s12 _ _ hc), q9, Nat.le_trans l30' (by decide), fun H3 y n' s3 hy => ?_⟩
          have h1t := s3 _ _ h1s
          refine ⟨_, rfl, _, _, _, _, _, rfl, h1t, (T.cls 145), (T.noat 153), F.wk, _, rfl, m.dw, _, rfl, DPut.k (k := kI n) (put H3 s3) (small (m := 20) (by rw [hlw]; exact Nat.le_trans G.wk.len (by decide))), ?_⟩
          refine ⟨_, rfl, _, rfl, ?_⟩
          refine itF rfl ?_
          exact fin H3 s3 y hy (by rintro ⟨_, z⟩; exact h16 z) 0 (by rw [hf]; rfl)
end Pv
end
section
set_option Elab.async false
set_option linter.all false
set_option maxRecDepth 100000
set_option maxHeartbeats 2000000
namespace Pv
open PySem PySem.Spec PyProof.Rows L2 Kvg9
open L2 (Dp DpAll)
variable {P : Program} {w : World} {K : PySem.W.Frag} {mg : Str → Option Value}
theorem sc_create_branch : FnScope ["store", "given", "branch"] ["store", "given"] (defScope s_create_branch) := ⟨rfl, rfl, rfl, by decide +kernel, rfl, by decide +kernel, by decide +kernel⟩
theorem ok_create_branch (T : Tx K mg) : Ok P w K mg ("create_branch", none) ["store", "given"] 2 (spRun K g1 (fun _ => True) Operation.createBranch) := by
  refine T.ok (i := 57) (d := d_create_branch) rfl rfl sc_create_branch (fun vs H Q E h => ?_) (fun _ _ _ _ _ _ us hl => match us, hl with | [_, _], _ => rfl) (fun base tb cdv A outer s H vs Q E hr h => ?_)
  · obtain ⟨a, s, m, g, x, xs, rfl, _⟩ := h
    rfl
  · obtain ⟨a, s, m, g, x, xs, rfl, S, G, tt, hg, rfl, hx, k⟩ := h
    obtain ⟨⟨dx, fs, h1, F⟩, ⟨kc, h2, C⟩, ⟨kb, h3, B⟩, ⟨kt, h4, T'⟩, ⟨kw, h5, D⟩, A⟩ := id S
    obtain ⟨na, nb, nt, nw⟩ := S.ne_a
    have hu := hu_of hr
    refine ⟨_, (pss_cons (ps_set (i := 2) sc_create_branch.nd rfl (by first | exact Or.inl rfl | exact Or.inr rfl) (pe_ix (kIxL (K := K) rfl) (pv 1) pe_int (fun _ _ => rfl)))
        (pss_cons (ps_if (pt_cmp (pc_din hu (pv 2) (pe_fld (pv 0) rfl)))
          (pss_one (ps_ret (pe_lst (pa_cons (pe_gint (T.int 112) rfl) pa_nil)))) pss_nil)
        (pss_cons (ps_if (pt_cmpR op_ge (pe_callB call_lenD (by rfl) (T.free 87) PySem.boot_len (pa_cons (pe_fld (pv 0) rfl) pa_nil)) (pe_gint (T.int 105) rfl) (nomark _))
          (pss_one (ps_ret (pe_lst (pa_cons (pe_gint (T.int 114) rfl) pa_nil)))) pss_nil)
        (pss_cons (ps_dput hu (pe_fld (pv 0) rfl) (pv 2) (pe_methO0 (pv 0) (ok_Store_head T) tb (T.cls 145) (T.meth 155) hr) rfl)
        (pss_one (ps_ret (pe_lst (pa_cons (pe_methO0 (pv 0) (ok_Store_head T) tb (T.cls 145) (T.meth 155) hr) pa_nil)))))))), ?_⟩
    have er : s.run (.createBranch x) = if (lookup s.branches x).isSome then (s, .error (-17)) else if maxNames ≤ s.branches.length then (s, .error (-28)) else ({ s with branches := assign x s.head s.branches }, .number s.head) := rfl
    refine ⟨_, rfl, g, _, _, _, rfl, rfl, SqL.of hg, atI_nat (j := 0) rfl, _, rfl, _, rfl, _, _, _, _, _, rfl, h1, (T.cls 145), (T.noat 148), F.br, m.db, _, rfl, DGet.k (k := kI x) h3, _, rfl, ?_⟩
    rw [B.isSome]
    cases hb : (lookup s.branches x).isSome with
    | true =>
      refine itT rfl ?_
      rw [if_pos hb] at er
      exact lit_done S tt (by rw [er]) (by rw [er] <;> rfl) rfl k
    | false =>
      refine itF rfl ?_
      rw [if_neg (by rw [hb]; simp)] at er
      have hl := B.len G.br.srt
      refine ⟨_, rfl, _, _, _, _, _, rfl, h1, (T.cls 145), (T.noat 148), F.br, m.db, _, rfl, h3, _, _, rfl, rfl, _, rfl, ?_⟩
      by_cases h8 : 8 ≤ s.branches.length
      · refine itT (decide_eq_true (show ((kb.length : Nat) : Int) ≥ 8 by omega)) ?_
        rw [if_pos (show maxNames ≤ _ from h8)] at er
        exact lit_done S tt (by rw [er]) (by rw [er] <;> rfl) rfl k
      refine itF (decide_eq_false (show ¬ ((kb.length : Nat) : Int) ≥ 8 by omega)) ?_
      rw [if_neg (show ¬ maxNames ≤ _ from h8)] at er
      refine ⟨_, rfl, a, dx, _, rfl, h1, F.only ("head" : Str) (by decide +kernel), a, s, m, _, rfl, S, G.hd, _, rfl, _, _, _, _, _, rfl, h1, (T.cls 145), (T.noat 148), F.br, _, rfl, m.db, _, rfl, DPut.k (k := kI x) h3 (small (m := 20) (by omega)), ?_⟩
      have S2 := S.setB av_b (B.put x s.head)
      have hd2 : HdOk { s with branches := assign x s.head s.branches } ∧ ({ s with branches := assign x s.head s.branches } : Store).head = s.head := by
        have e : lookup (assign x s.head s.branches) s.current = some s.head := by
          rw [look_assign]
          split
          · rfl
          · exact G.hd.cu
        have e2 : ({ s with branches := assign x s.head s.branches } : Store).head = s.head := by
          show (lookup (assign x s.head s.branches) s.current).getD 0 = s.head
          rw [e]; rfl
        refine ⟨⟨?_, ?_⟩, e2⟩
        · rw [e2]; exact e
        · rw [e2]; exact G.hd.cm
      have h1' : (upd H m.db (.dK (putK kb (kI x) (.int (s.head : Nat))))) a = some (.ins (cSto K) dx fs) := by rw [upd_ne nb]; exact h1
      refine ⟨_, rfl, a, dx, _, rfl, h1', F.only ("head" : Str) (by decide +kernel), a, _, m, _, rfl, S2, hd2.1, ?_⟩
      rw [hd2.2]
      exact new_done S tt S2 (Fr.upd av_b) (by rw [er]) (by rw [er] <;> rfl) rfl k
theorem sc_delete_branch : FnScope ["store", "given", "branch"] ["store", "given"] (defScope s_delete_branch) := ⟨rfl, rfl, rfl, by decide +kernel, rfl, by decide +kernel, by decide +kernel⟩
theorem ok_delete_branch (T : Tx K mg) : Ok P w K mg ("delete_branch", none) ["store", "given"] 1 (spRun K g1 (fun _ => True) Operation.deleteBranch) := by
  refine T.ok (i := 59) (d := d_delete_branch) rfl rfl sc_delete_branch (fun vs H Q E h => ?_) (fun _ _ _ _ _ _ us hl => match us, hl with | [_, _], _ => rfl) (fun base tb cdv A outer s H vs Q E hr h => ?_)
  · obtain ⟨a, s, m, g, x, xs, rfl, _⟩ := h
    rfl
  · obtain ⟨a, s, m, g, x, xs, rfl, S, G, tt, hg, rfl, hx, k⟩ := h
    obtain ⟨⟨dx, fs, h1, F⟩, ⟨kc, h2, C⟩, ⟨kb, h3, B⟩, ⟨kt, h4, T'⟩, ⟨kw, h5, D⟩, A⟩ := id S
    obtain ⟨na, nb, nt, nw⟩ := S.ne_a
    have hu := hu_of hr
    refine ⟨_, (pss_cons (ps_set (i := 2) sc_delete_branch.nd rfl (by first | exact Or.inl rfl | exact Or.inr rfl) (pe_ix (kIxL (K := K) rfl) (pv 1) pe_int (fun _ _ => rfl)))
        (pss_cons (ps_if (pt_cmp (pc_dnotin hu (pv 2) (pe_fld (pv 0) rfl)))
          (pss_one (ps_ret (pe_lst (pa_cons (pe_gint (T.int 108) rfl) pa_nil)))) pss_nil)
        (pss_cons (ps_if (pt_cmpR op_eq (pv 2) (pe_fld (pv 0) rfl) (nomark _))
          (pss_one (ps_ret (pe_lst (pa_cons (pe_gint (T.int 111) rfl) pa_nil)))) pss_nil)
        (pss_cons (ps_expr (pe_dpop1 (pe_fld (pv 0) rfl) (pv 2) ⟨by rfl, by rfl, by rfl, by rfl⟩))
        (pss_one (ps_ret (pe_lst (pa_cons (pe_callB call_lenD (by rfl) (T.free 87) PySem.boot_len (pa_cons (pe_fld (pv 0) rfl) pa_nil)) pa_nil)))))))), ?_⟩
    have er : s.run (.deleteBranch x) = if (lookup s.branches x).isNone then (s, .error (-2)) else if x = s.current then (s, .error (-16)) else ({ s with branches := s.branches.filter fun e => e.1 != x }, .number (s.branches.length - 1)) := rfl
    refine ⟨_, rfl, g, _, _, _, rfl, rfl, SqL.of hg, atI_nat (j := 0) rfl, _, rfl, _, rfl, _, _, _, _, _, rfl, h1, (T.cls 145), (T.noat 148), F.br, m.db, _, rfl, DGet.k (k := kI x) h3, _, rfl, ?_⟩
    have hbs := B.isSome x
    have hl := B.len G.br.srt
    cases hb : lookup s.branches x with
    | none =>
      rw [hb] at hbs
      rw [hbs]
      refine itT rfl ?_
      rw [hb, if_pos (show (none : Option Nat).isNone = true from rfl)] at er
      exact lit_done S tt (by rw [er]) (by rw [er] <;> rfl) rfl k
    | some c =>
      rw [hb] at hbs
      rw [hbs]
      refine itF rfl ?_
      rw [hb, if_neg (by simp)] at er
      refine ⟨_, rfl, _, rfl, _, _, _, _, _, rfl, h1, (T.cls 145), (T.noat 151), F.cu, rfl, _, rfl, ?_⟩
      by_cases hc : x = s.current
      · refine itT (decide_eq_true (by rw [hc])) ?_
        rw [if_pos hc] at er
        exact lit_done S tt (by rw [er]) (by rw [er] <;> rfl) rfl k
      refine itF (decide_eq_false fun z => hc (by have := V.int.inj z; omega)) ?_
      rw [if_neg hc] at er
      have e1 : valV kb (kI x) = some (.int (c : Nat)) := by rw [B.get, hb]; rfl
      have h1' : (upd H m.db (.dK (dropK kb (kI x)))) a = some (.ins (cSto K) dx fs) := by rw [upd_ne nb]; exact h1
      refine ⟨_, rfl, _, _, _, _, _, rfl, h1, (T.cls 145), (T.noat 148), F.br, m.db, rfl, .inl ⟨kb, .inl h3⟩, _, rfl, kb, kI x, _, h3, rfl, e1, _, rfl, _, _, _, _, _, rfl, h1', (T.cls 145), (T.noat 148), F.br, m.db, _, rfl, upd_same, ?_⟩
      have el : (dropK kb (kI x)).length = s.branches.length - 1 := by
        rw [(B.drop x).len (srt_drop G.br.srt), len_drop G.br.srt (by rw [hb]; rfl)]
      exact new_done S tt (S.setB av_b (B.drop x)) (Fr.upd av_b) (by rw [er]) (by rw [er] <;> rfl) (by rw [el]; rfl) k
theorem sc_switch_branch : FnScope ["store", "given", "branch"] ["store", "given"] (defScope s_switch_branch) := ⟨rfl, rfl, rfl, by decide +kernel, rfl, by decide +kernel, by decide +kernel⟩
theorem ok_switch_branch (T : Tx K mg) : Ok P w K mg ("switch_branch", none) ["store", "given"] 4 (spRun K g1 (fun _ => True) Operation.switchBranch) := by
  refine T.ok (i := 58) (d := d_switch_branch) rfl rfl sc_switch_branch (fun vs H Q E h => ?_) (fun _ _ _ _ _ _ us hl => match us, hl with | [_, _], _ => rfl) (fun base tb cdv A outer s H vs Q E hr h => ?_)
  · obtain ⟨a, s, m, g, x, xs, rfl, _⟩ := h
    rfl
  · obtain ⟨a, s, m, g, x, xs, rfl, S, G, tt, hg, rfl, hx, k⟩ := h
    obtain ⟨⟨dx, fs, h1, F⟩, ⟨kc, h2, C⟩, ⟨kb, h3, B⟩, ⟨kt, h4, T'⟩, ⟨kw, h5, D⟩, A⟩ := id S
    obtain ⟨na, nb, nt, nw⟩ := S.ne_a
    have hu := hu_of hr
    refine ⟨_, (pss_cons (ps_set (i := 2) sc_switch_branch.nd rfl (by first | exact Or.inl rfl | exact Or.inr rfl) (pe_ix (kIxL (K := K) rfl) (pv 1) pe_int (fun _ _ => rfl)))
        (pss_cons (ps_if (pt_cmp (pc_dnotin hu (pv 2) (pe_fld (pv 0) rfl)))
          (pss_one (ps_ret (pe_lst (pa_cons (pe_gint (T.int 108) rfl) pa_nil)))) pss_nil)
        (pss_cons (ps_if (pt_val (pe_methO0 (pv 0) (ok_Store_is_changed T) tb (T.cls 145) (T.meth 157) hr))
          (pss_one (ps_ret (pe_lst (pa_cons (pe_gint (T.int 111) rfl) pa_nil)))) pss_nil)
        (pss_cons (ps_fld (pv 0) (pv 2) rfl)
        (pss_cons (ps_expr (pe_methO0 (pv 0) (ok_Store_take_head_version T) tb (T.cls 145) (T.meth 163) hr))
        (pss_one (ps_ret (pe_lst (pa_cons (pe_methO0 (pv 0) (ok_Store_head T) tb (T.cls 145) (T.meth 155) hr) pa_nil))))))))), ?_⟩
    have er : s.run (.switchBranch x) = match lookup s.branches x with
      | none => (s, .error (-2))
      | some c => if s.isChanged then (s, .error (-16)) else ({ s with current := x, working := s.version c }, .number c) := rfl
    refine ⟨_, rfl, g, _, _, _, rfl, rfl, SqL.of hg, atI_nat (j := 0) rfl, _, rfl, _, rfl, _, _, _, _, _, rfl, h1, (T.cls 145), (T.noat 148), F.br, m.db, _, rfl, DGet.k (k := kI x) h3, _, rfl, ?_⟩
    have hbs := B.isSome x
    cases hb : lookup s.branches x with
    | none =>
      rw [hb] at hbs er
      rw [hbs]
      refine itT rfl ?_
      exact lit_done S tt (by rw [er]) (by rw [er] <;> rfl) rfl k
    | some c =>
      rw [hb] at hbs er
      rw [hbs]
      refine itF rfl ?_
      replace er : s.run (.switchBranch x) = if s.isChanged then (s, .error (-16)) else ({ s with current := x, working := s.version c }, .number c) := er
      refine ⟨_, rfl, a, dx, _, rfl, h1, F.only ("is_changed" : Str) (by decide +kernel), a, s, m, _, rfl, S, G, _, rfl, ?_⟩
      cases hch : s.isChanged with
      | true =>
        refine itT rfl ?_
        rw [if_pos hch] at er
        exact lit_done S tt (by rw [er]) (by rw [er] <;> rfl) rfl k
      | false =>
        refine itF rfl ?_
        rw [if_neg (by rw [hch]; simp)] at er
        refine ⟨_, rfl, _, rfl, a, _, dx, _, rfl, h1, (T.cls 145), (T.noat 151), Nat.lt_of_le_of_lt F.len (by decide), ?_⟩
        have t1 : Tup H (upd H a (.ins (cSto K) dx (putF ("current_branch" : Str) (.int (x : Nat)) fs))) := Tup.upd h1 rfl
        have S1 : StoreAt K (upd H a (.ins (cSto K) dx (putF ("current_branch" : Str) (.int (x : Nat)) fs))) a { s with current := x } m := by
          have C2 := S.com_upd (o := .ins (cSto K) dx (putF ("current_branch" : Str) (.int (x : Nat)) fs)) av_a av_a C
          exact ⟨⟨dx, _, upd_same, F.setCU _⟩, ⟨kc, by rw [upd_ne na.symm]; exact h2, ⟨C2.keys, C2.at_⟩⟩, ⟨kb, by rw [upd_ne nb.symm]; exact h3, B⟩, ⟨kt, by rw [upd_ne nt.symm]; exact h4, T'⟩, ⟨kw, by rw [upd_ne nw.symm]; exact h5, D.tup t1⟩, A⟩
        have f1 : Fr H a m (upd H a (.ins (cSto K) dx (putF ("current_branch" : Str) (.int (x : Nat)) fs))) m := Fr.upd av_a
        have hd1 : ({ s with current := x } : Store).head = c := by
          show (lookup s.branches x).getD 0 = c
          rw [hb]; rfl
        have hk : HdOk { s with current := x } := by
          refine ⟨?_, ?_⟩
          · rw [hd1]; exact hb
          · rw [hd1]
            have := (G.br.at_ _ (look_mem hb)).1
            exact Option.isSome_iff_exists.mp this
        have F1 := F.setCU (.int (x : Nat))
        refine ⟨_, rfl, a, dx, _, rfl, upd_same, F1.only ("take_head_version" : Str) (by decide +kernel), a, _, m, _, rfl, S1, fun b hb => co_av hb, hk, fun H2 dw nd S2 f2 => ?_⟩
        obtain ⟨⟨dx2, fs2, q1, F2⟩, _⟩ := id S2
        have hd2 : ({ s with current := x, working := s.version c } : Store).head = c := hd1
        have hk2 : HdOk { s with current := x, working := s.version c } := ⟨by rw [hd2]; exact hb, by rw [hd2]; have := hk.cm; rw [hd1] at this; exact this⟩
        have S2' : StoreAt K H2 a { s with current := x, working := s.version c } { m with dw := dw } := by
          have ev : ({ s with current := x } : Store).version ({ s with current := x } : Store).head = s.version c := by rw [hd1]; rfl
          have := S2
          rw [ev] at this
          exact this
        refine ⟨_, rfl, a, dx2, _, rfl, q1, F2.only ("head" : Str) (by decide +kernel), a, _, _, _, rfl, S2', hk2, ?_⟩
        rw [hd2]
        exact new_done S tt S2' (f1.trans f2) (by rw [er]) (by rw [er] <;> rfl) rfl k
theorem sc_set_tag : FnScope ["store", "given", "tag", "number", "is_replaced"] ["store", "given"] (defScope s_set_tag) := ⟨rfl, rfl, rfl, by decide +kernel, rfl, by decide +kernel, by decide +kernel⟩
theorem ok_set_tag (T : Tx K mg) : Ok P w K mg ("set_tag", none) ["store", "given"] 1 (spRun K g2 (fun _ => True) (fun x => Operation.setTag x.1 x.2)) := by
  refine T.ok (i := 60) (d := d_set_tag) rfl rfl sc_set_tag (fun vs H Q E h => ?_) (fun _ _ _ _ _ _ us hl => match us, hl with | [_, _], _ => rfl) (fun base tb cdv A outer s H vs Q E hr h => ?_)
  · obtain ⟨a, s, m, g, x, xs, rfl, _⟩ := h
    rfl
  · obtain ⟨a, s, m, g, x, xs, rfl, S, G, tt, hg, rfl, hx, k⟩ := h
    obtain ⟨⟨dx, fs, h1, F⟩, ⟨kc, h2, C⟩, ⟨kb, h3, B⟩, ⟨kt, h4, T'⟩, ⟨kw, h5, D⟩, A⟩ := id S
    obtain ⟨na, nb, nt, nw⟩ := S.ne_a
    have hu := hu_of hr
    refine ⟨_, (pss_cons (ps_asg (pv 1) (pg_unl rfl (pgs_cons (pg_name (i := 2) sc_set_tag.nd rfl (by first | exact Or.inl rfl | exact Or.inr rfl)) (pgs_cons (pg_name (i := 3) sc_set_tag.nd rfl (by first | exact Or.inl rfl | exact Or.inr rfl)) pgs_nil))))
        (pss_cons (ps_if (pt_cmp (pc_dnotin hu (pv 3) (pe_fld (pv 0) rfl)))
          (pss_one (ps_ret (pe_lst (pa_cons (pe_gint (T.int 108) rfl) pa_nil)))) pss_nil)
        (pss_cons (ps_set (i := 4) sc_set_tag.nd rfl (by first | exact Or.inl rfl | exact Or.inr rfl) (pe_cmp (pc_din hu (pv 2) (pe_fld (pv 0) rfl)) rfl))
        (pss_cons (ps_if (PW.pt (pw_and (pt_not (pt_val (pv 4))) (pw_and1 (pt_cmpR op_ge (pe_callB call_lenD (by rfl) (T.free 87) PySem.boot_len (pa_cons (pe_fld (pv 0) rfl) pa_nil)) (pe_gint (T.int 106) rfl) (nomark _)))))
          (pss_one (ps_ret (pe_lst (pa_cons (pe_gint (T.int 114) rfl) pa_nil)))) pss_nil)
        (pss_cons (ps_dput hu (pe_fld (pv 0) rfl) (pv 2) (pv 3) rfl)
        (pss_one (ps_ret (pe_lst (pa_cons (pe_ifExp (pt_val (pv 4)) pe_int pe_int) pa_nil))))))))), ?_⟩
    obtain ⟨t, c⟩ := x
    dsimp only at hg k
    have er : s.run (.setTag t c) = if s.exists_ c = false then (s, .error (-2)) else if (lookup s.tags t).isNone ∧ maxNames ≤ s.tags.length then (s, .error (-28)) else ({ s with tags := assign t c s.tags }, .number (if (lookup s.tags t).isSome then 1 else 0)) := rfl
    refine ⟨_, rfl, g, _, rfl, SqL.of hg, rfl, _, _, rfl, _, _, rfl, rfl, ?_⟩
    refine ⟨_, rfl, _, rfl, _, _, _, _, _, rfl, h1, (T.cls 145), (T.noat 150), F.cm, m.dc, _, rfl, DGet.k (k := kI c) h2, _, rfl, ?_⟩
    rw [C.isSome]
    cases hc : s.exists_ c with
    | false =>
      rw [show (s.commit c).isSome = false from hc]
      refine itT (c := !false) rfl ?_
      rw [if_pos hc] at er
      exact lit_done S tt (by rw [er]) (by rw [er] <;> rfl) rfl k
    | true =>
      rw [show (s.commit c).isSome = true from hc]
      refine itF (c := !true) rfl ?_
      rw [if_neg (by rw [hc]; simp)] at er
      refine ⟨_, rfl, _, rfl, _, _, _, _, _, rfl, h1, (T.cls 145), (T.noat 152), F.tg, m.dt, _, rfl, DGet.k (k := kI t) h4, _, rfl, ?_⟩
      rw [T'.isSome]
      have hl := T'.len G.tg.srt
      have fin : ¬ ((lookup s.tags t).isNone ∧ maxNames ≤ s.tags.length) → ∀ z : Int, z = (if (lookup s.tags t).isSome then 1 else 0) → [V.int z].length ≤ sizeLine ∧ ∀ p, upd H m.dt (.dK (putK kt (kI t) (.int (c : Nat)))) p = none → Q (.ref p) (upd (upd H m.dt (.dK (putK kt (kI t) (.int (c : Nat))))) p (.lst [V.int z])) := by
        intro hno z hz
        rw [if_neg hno] at er
        refine new_done (l := [z]) S tt (S.setT (T'.put t c)) (Fr.upd av_t) (by rw [er]) ?_ rfl k
        rw [er, hz]
        show [(((if (lookup s.tags t).isSome then 1 else 0 : Nat) : Nat) : Int)] = _
        split <;> rfl
      have lt : kt.length < sizeLine := small (m := 20) (by have := G.tg.len; omega)
      cases ht : lookup s.tags t with
      | some c' =>
        refine ⟨_, rfl, ?_⟩
        refine ⟨_, rfl, _, rfl, _, _, _, _, _, rfl, h1, (T.cls 145), (T.noat 152), F.tg, _, rfl, m.dt, _, rfl, DPut.k (k := kI t) h4 lt, ?_⟩
        refine ⟨_, rfl, _, rfl, ?_⟩
        refine itT rfl ?_
        exact fin (by rw [ht]; simp) 1 (by rw [ht]; rfl)
      | none =>
        refine ⟨_, rfl, ?_⟩
        refine ⟨_, rfl, _, _, _, _, _, rfl, h1, (T.cls 145), (T.noat 152), F.tg, m.dt, _, rfl, h4, _, _, rfl, rfl, _, rfl, ?_⟩
        by_cases h8 : 8 ≤ s.tags.length
        · refine itT (decide_eq_true (show ((kt.length : Nat) : Int) ≥ 8 by omega)) ?_
          rw [if_pos ⟨by rw [ht]; rfl, h8⟩] at er
          exact lit_done S tt (by rw [er]) (by rw [er] <;> rfl) rfl k
        refine itF (decide_eq_false (show ¬ ((kt.length : Nat) : Int) ≥ 8 by omega)) ?_
        refine ⟨_, rfl, _, rfl, _, _, _, _, _, rfl, h1, (T.cls 145), (T.noat 152), F.tg, _, rfl, m.dt, _, rfl, DPut.k (k := kI t) h4 lt, ?_⟩
        refine ⟨_, rfl, _, rfl, ?_⟩
        refine itF rfl ?_
        exact fin (by rintro ⟨_, z⟩; exact h8 z) 0 (by rw [ht]; rfl)
theorem sc_delete_tag : FnScope ["store", "given", "tag"] ["store", "given"] (defScope s_delete_tag) := ⟨rfl, rfl, rfl, by decide +kernel, rfl, by decide +kernel, by decide +kernel⟩
theorem ok_delete_tag (T : Tx K mg) : Ok P w K mg ("delete_tag", none) ["store", "given"] 1 (spRun K g1 (fun _ => True) Operation.deleteTag) := by
  refine T.ok (i := 61) (d := d_delete_tag) rfl rfl sc_delete_tag (fun vs H Q E h => ?_) (fun _ _ _ _ _ _ us hl => match us, hl with | [_, _], _ => rfl) (fun base tb cdv A outer s H vs Q E hr h => ?_)
  · obtain ⟨a, s, m, g, x, xs, rfl, _⟩ := h
    rfl
  · obtain ⟨a, s, m, g, x, xs, rfl, S, G, tt, hg, rfl, hx, k⟩ := h
    obtain ⟨⟨dx, fs, h1, F⟩, ⟨kc, h2, C⟩, ⟨kb, h3, B⟩, ⟨kt, h4, T'⟩, ⟨kw, h5, D⟩, A⟩ := id S
    obtain ⟨na, nb, nt, nw⟩ := S.ne_a
    have hu := hu_of hr
    refine ⟨_, (pss_cons (ps_set (i := 2) sc_delete_tag.nd rfl (by first | exact Or.inl rfl | exact Or.inr rfl) (pe_ix (kIxL (K := K) rfl) (pv 1) pe_int (fun _ _ => rfl)))
        (pss_cons (ps_if (pt_cmp (pc_dnotin hu (pv 2) (pe_fld (pv 0) rfl)))
          (pss_one (ps_ret (pe_lst (pa_cons (pe_gint (T.int 108) rfl) pa_nil)))) pss_nil)
        (pss_one (ps_ret (pe_lst (pa_cons (pe_dpop1 (pe_fld (pv 0) rfl) (pv 2) ⟨by rfl, by rfl, by rfl, by rfl⟩) pa_nil)))))), ?_⟩
    have er : s.run (.deleteTag x) = match lookup s.tags x with
      | none => (s, .error (-2))
      | some c => ({ s with tags := s.tags.filter fun e => e.1 != x }, .number c) := rfl
    refine ⟨_, rfl, g, _, _, _, rfl, rfl, SqL.of hg, atI_nat (j := 0) rfl, _, rfl, _, rfl, _, _, _, _, _, rfl, h1, (T.cls 145), (T.noat 152), F.tg, m.dt, _, rfl, DGet.k (k := kI x) h4, _, rfl, ?_⟩
    have hbs := T'.isSome x
    cases hb : lookup s.tags x with
    | none =>
      rw [hb] at hbs er
      rw [hbs]
      refine itT rfl ?_
      exact lit_done S tt (by rw [er]) (by rw [er] <;> rfl) rfl k
    | some c =>
      rw [hb] at hbs er
      rw [hbs]
      refine itF rfl ?_
      have e1 : valV kt (kI x) = some (.int (c : Nat)) := by rw [T'.get, hb]; rfl
      refine ⟨_, rfl, _, _, _, _, _, rfl, h1, (T.cls 145), (T.noat 152), F.tg, m.dt, rfl, .inl ⟨kt, .inl h4⟩, _, rfl, kt, kI x, _, h4, rfl, e1, ?_⟩
      exact new_done S tt (S.setT (T'.drop x)) (Fr.upd av_t) (by rw [er]) (by rw [er] <;> rfl) rfl k
end Pv
end
section
set_option Elab.async false
set_option linter.all false
set_option maxRecDepth 100000
set_option maxHeartbeats 2000000
/-! a set's table is laid anew: it always is (the masks 7, 15, 31, 63, 127) -/
namespace PvSet
open PySem PySem.Spec
def mk (m : Nat) : Prop := m = 7 ∨ m = 15 ∨ m = 31 ∨ m = 63 ∨ m = 127
/-- i * 5 + 1, b times from 0 -/
def lc (m : Nat) : Nat → Nat
  | 0 => 0
  | b + 1 => (lc m b * 5 + 1) % (m + 1)
def hits (m : Nat) : Bool := (List.range (m + 1)).all fun j => (List.range (m + 1)).any fun b => lc m b == j
theorem hits_ok {m : Nat} (h : mk m) : hits m = true ∧ lc m (m + 1) = 0 := by
  rcases h with e | e | e | e | e <;> subst e <;> exact ⟨by decide +kernel, by decide +kernel⟩
theorem lc_add (m : Nat) (h0 : lc m (m + 1) = 0) : ∀ b, lc m (b + (m + 1)) = lc m b
  | 0 => by rw [Nat.zero_add]; exact h0
  | b + 1 => by
    rw [show b + 1 + (m + 1) = (b + (m + 1)) + 1 by omega]
    show (lc m (b + (m + 1)) * 5 + 1) % (m + 1) = (lc m b * 5 + 1) % (m + 1)
    rw [lc_add m h0 b]
theorem hit {m : Nat} (h : mk m) {j : Nat} (hj : j ≤ m) : ∃ b, b ≤ m ∧ lc m b = j := by
  have h1 := List.all_eq_true.mp (hits_ok h).1 j (List.mem_range.mpr (by omega))
  obtain ⟨b, hb, e⟩ := List.any_eq_true.mp h1
  exact ⟨b, by have := List.mem_range.mp hb; omega, beq_iff_eq.mp e⟩
/-- from anywhere, within m steps, anything is met -/
theorem meet {m : Nat} (h : mk m) {i j : Nat} (hi : i ≤ m) (hj : j ≤ m) : ∃ b a, b ≤ m ∧ lc m a = i ∧ lc m (a + b) = j := by
  obtain ⟨a, ha, ea⟩ := hit h hi
  obtain ⟨c, hc, ec⟩ := hit h hj
  rcases Nat.le_total a c with q | q
  · exact ⟨c - a, a, by omega, ea, by rw [show a + (c - a) = c by omega]; exact ec⟩
  · refine ⟨(c + (m + 1) - a) % (m + 1), a, by have := Nat.mod_lt (c + (m + 1) - a) (show 0 < m + 1 by omega); omega, ea, ?_⟩
    rcases Nat.eq_or_lt_of_le q with q | q
    · subst q
      rw [show c + (m + 1) - c = m + 1 by omega, Nat.mod_self, Nat.add_zero]
      exact ec
    · rw [Nat.mod_eq_of_lt (by omega), show a + (c + (m + 1) - a) = c + (m + 1) by omega, lc_add m (hits_ok h).2]
      exact ec
def go (m : Nat) : Nat → Nat × Nat → Nat × Nat
  | 0, p => p
  | k + 1, p => go m k (SetTable.leap m p.1 p.2)
theorem go_succ (m : Nat) : ∀ (k : Nat) (p : Nat × Nat), go m (k + 1) p = SetTable.leap m (go m k p).1 (go m k p).2
  | 0, _ => rfl
  | k + 1, p => go_succ m k (SetTable.leap m p.1 p.2)
theorem go_pert (m : Nat) : ∀ (k : Nat) (p : Nat × Nat), (go m k p).2 = p.2 / 32 ^ k
  | 0, p => by simp [go]
  | k + 1, p => by
    show (go m k (SetTable.leap m p.1 p.2)).2 = _
    rw [go_pert m k]
    show p.2 / 32 / 32 ^ k = _
    rw [Nat.div_div_eq_div_mul, Nat.pow_succ, Nat.mul_comm]
theorem go_le (m : Nat) : ∀ (k : Nat) (p : Nat × Nat), p.1 ≤ m → (go m k p).1 ≤ m
  | 0, p, h => h
  | k + 1, p, h => go_le m k _ (by have := Nat.mod_lt (p.1 * 5 + 1 + p.2 / 32) (show 0 < m + 1 by omega); show (p.1 * 5 + 1 + p.2 / 32) % (m + 1) ≤ m; omega)
theorem go_add (m : Nat) : ∀ (j k : Nat) (p : Nat × Nat), go m (j + k) p = go m k (go m j p)
  | 0, k, p => by rw [Nat.zero_add]; rfl
  | j + 1, k, p => by
    rw [show j + 1 + k = (j + k) + 1 by omega]
    exact go_add m j k _
theorem go_lc {m : Nat} : ∀ (b a : Nat), (go m b (lc m a, 0)).1 = lc m (a + b) ∧ (go m b (lc m a, 0)).2 = 0
  | 0, a => ⟨rfl, rfl⟩
  | b + 1, a => by
    show (go m b (SetTable.leap m (lc m a) 0)).1 = _ ∧ (go m b (SetTable.leap m (lc m a) 0)).2 = _
    have e : SetTable.leap m (lc m a) 0 = (lc m (a + 1), 0) := by
      show ((lc m a * 5 + 1 + 0 / 32) % (m + 1), 0 / 32) = ((lc m a * 5 + 1) % (m + 1), 0)
      simp
    rw [e]
    have := go_lc (m := m) b (a + 1)
    rw [show a + 1 + b = a + (b + 1) by omega] at this
    exact this
/-- the way from any hash meets any slot within m + 14 leaps -/
theorem reach {m : Nat} (h : mk m) (hsh : Int) {j : Nat} (hj : j ≤ m) : ∃ k, k < SetTable.turns m ∧ (go m k (SetTable.bits hsh % (m + 1), SetTable.bits hsh)).1 = j := by
  have hb : SetTable.bits hsh < 2 ^ 64 := by
    unfold SetTable.bits
    have := Int.emod_lt_of_pos hsh (show (0 : Int) < 2 ^ 64 by decide)
    have := Int.emod_nonneg hsh (show (2 ^ 64 : Int) ≠ 0 by decide)
    omega
  have hi : (go m 13 (SetTable.bits hsh % (m + 1), SetTable.bits hsh)).1 ≤ m := go_le m 13 _ (by have := Nat.mod_lt (SetTable.bits hsh) (show 0 < m + 1 by omega); omega)
  have h0 : (go m 13 (SetTable.bits hsh % (m + 1), SetTable.bits hsh)).2 = 0 := by
    rw [go_pert]
    exact Nat.div_eq_of_lt (Nat.lt_of_lt_of_le hb (by decide))
  obtain ⟨b, a, hbm, ea, eb⟩ := meet h hi hj
  refine ⟨13 + b, by unfold SetTable.turns; omega, ?_⟩
  rw [go_add]
  have e : go m 13 (SetTable.bits hsh % (m + 1), SetTable.bits hsh) = (lc m a, 0) := Prod.ext ea.symm h0
  rw [e, (go_lc b a).1]
  exact eb
/-- no free slot was found: none on the way is free -/
theorem free_none (m : Nat) (owner : Array (Option Nat)) : ∀ (f i p : Nat), SetTable.layClean.free m owner f i p = none → ∀ k, k < f → (owner.getD (go m k (i, p)).1 (some 0)).isNone = false
  | 0, _, _, _, k, hk => absurd hk (by omega)
  | f + 1, i, p, h, k, hk => by
    unfold SetTable.layClean.free at h
    cases q : (List.range (SetTable.runEnd m i + 1 - i)).find? fun k => (owner.getD (i + k) (some 0)).isNone with
    | some x => rw [q] at h; cases h
    | none =>
      rw [q] at h
      cases k with
      | zero =>
        have := List.find?_eq_none.mp q 0 (List.mem_range.mpr (by unfold SetTable.runEnd; split <;> omega))
        show (owner.getD i (some 0)).isNone = false
        cases z : (owner.getD i (some 0)).isNone with
        | false => rfl
        | true => exact absurd z this
      | succ k => exact free_none m owner f _ _ h k (by omega)
theorem free_some (m : Nat) (owner : Array (Option Nat)) : ∀ (f i p j : Nat), SetTable.layClean.free m owner f i p = some j → (owner.getD j (some 0)).isNone = true
  | 0, _, _, _, h => by unfold SetTable.layClean.free at h; cases h
  | f + 1, i, p, j, h => by
    unfold SetTable.layClean.free at h
    cases q : (List.range (SetTable.runEnd m i + 1 - i)).find? fun k => (owner.getD (i + k) (some 0)).isNone with
    | some x =>
      rw [q] at h
      have := List.find?_some q
      have e : i + x = j := Option.some.inj h
      rw [← e]
      exact this
    | none =>
      rw [q] at h
      exact free_some m owner f _ _ j h
/-- who stands where, k of them placed -/
structure Pl (m k : Nat) (owner : Array (Option Nat)) : Prop where
  sz : owner.size = m + 1
  all : ∀ x, x < k → ∃ j, j ≤ m ∧ owner[j]? = some (some x)
  ps : ∃ ps : List Nat, ps.length = k ∧ ∀ j x, owner[j]? = some (some x) → j ∈ ps
theorem getD_none {owner : Array (Option Nat)} {j : Nat} : (owner.getD j (some 0)).isNone = true ↔ owner[j]? = some none := by
  rw [Array.getD_eq_getD_getElem?]
  cases e : owner[j]? with
  | none => simp
  | some o => cases o <;> simp
theorem Pl.gap {m k : Nat} {owner : Array (Option Nat)} (P : Pl m k owner) (hk : k ≤ m) : ∃ j, j ≤ m ∧ owner[j]? = some none := by
  obtain ⟨ps, p1, p2⟩ := P.ps
  apply Classical.byContradiction
  intro no
  have hall : ∀ j ∈ List.range (m + 1), j ∈ ps := fun j hj => by
    have hj := List.mem_range.mp hj
    cases e : owner[j]? with
    | none => rw [Array.getElem?_eq_none_iff, P.sz] at e; omega
    | some o =>
      cases o with
      | none => exact absurd ⟨j, by omega, e⟩ no
      | some x => exact p2 j x e
  have := List.nodup_range (n := m + 1) |>.length_le_of_subset hall
  rw [List.length_range, p1] at this
  omega
theorem Pl.put {m k j : Nat} {owner : Array (Option Nat)} (P : Pl m k owner) (hj : owner[j]? = some none) : Pl m (k + 1) (owner.setIfInBounds j (some k)) := by
  have hlt : j < owner.size := (Array.getElem?_eq_some_iff.mp hj).1
  refine ⟨by rw [Array.size_setIfInBounds]; exact P.sz, fun x hx => ?_, ?_⟩
  · rcases Nat.lt_or_ge x k with q | q
    · obtain ⟨i, hi, e⟩ := P.all x q
      refine ⟨i, hi, ?_⟩
      rw [Array.getElem?_setIfInBounds, if_neg (fun z => by rw [z] at hj; rw [hj] at e; cases e)]
      exact e
    · refine ⟨j, by have := P.sz; omega, ?_⟩
      rw [Array.getElem?_setIfInBounds, if_pos rfl, if_pos hlt, show x = k by omega]
  · obtain ⟨ps, p1, p2⟩ := P.ps
    refine ⟨j :: ps, by rw [List.length_cons, p1], fun i x e => ?_⟩
    rw [Array.getElem?_setIfInBounds] at e
    by_cases q : j = i
    · rw [q]; simp
    · rw [if_neg q] at e
      exact List.mem_cons_of_mem _ (p2 i x e)
theorem fold_ok {m : Nat} (h : mk m) : ∀ (hs : List Int) (k : Nat) (owner : Array (Option Nat)), Pl m k owner → k + hs.length ≤ m + 1 → ∃ owner', hs.foldl (fun acc h => do
    let (owner, k) ← acc
    let j ← SetTable.layClean.free m owner (SetTable.turns m) (SetTable.bits h % (m + 1)) (SetTable.bits h)
    pure (owner.setIfInBounds j (some k), k + 1)) (some (owner, k)) = some (owner', k + hs.length) ∧ Pl m (k + hs.length) owner'
  | [], k, owner, P, _ => ⟨owner, rfl, P⟩
  | x :: hs, k, owner, P, hl => by
    rw [List.length_cons] at hl
    cases e : SetTable.layClean.free m owner (SetTable.turns m) (SetTable.bits x % (m + 1)) (SetTable.bits x) with
    | none =>
      obtain ⟨j, hj, ej⟩ := P.gap (by omega)
      obtain ⟨b, hb, eb⟩ := reach h x hj
      have := free_none m owner _ _ _ e b hb
      rw [eb, getD_none.mpr ej] at this
      cases this
    | some j =>
      have hj := getD_none.mp (free_some m owner _ _ _ j e)
      obtain ⟨o', e1, e2⟩ := fold_ok h hs (k + 1) _ (P.put hj) (by omega)
      refine ⟨o', ?_, by rw [List.length_cons, show k + (hs.length + 1) = k + 1 + hs.length by omega]; exact e2⟩
      rw [List.foldl_cons]
      have : (do
          let (owner, k) ← some (owner, k)
          let j ← SetTable.layClean.free m owner (SetTable.turns m) (SetTable.bits x % (m + 1)) (SetTable.bits x)
          pure (owner.setIfInBounds j (some k), k + 1) : Option (Array (Option Nat) × Nat)) = some (owner.setIfInBounds j (some k), k + 1) := by
        show (SetTable.layClean.free m owner (SetTable.turns m) (SetTable.bits x % (m + 1)) (SetTable.bits x)).bind _ = _
        rw [e]
        rfl
      rw [this, e1, List.length_cons, show k + 1 + hs.length = k + (hs.length + 1) by omega]
theorem clean_ok {m : Nat} (h : mk m) (hs : Array Int) (hn : hs.size ≤ m + 1) : ∃ owner, SetTable.layClean m hs = some owner ∧ Pl m hs.size owner := by
  have P0 : Pl m 0 (Array.replicate (m + 1) none) := ⟨by simp, fun x hx => absurd hx (by omega), [], rfl, fun j x e => by
    rw [Array.getElem?_replicate] at e
    split at e <;> cases e⟩
  obtain ⟨o, e, P⟩ := fold_ok h hs.toList 0 _ P0 (by rw [Array.length_toList]; omega)
  refine ⟨o, ?_, ?_⟩
  · unfold SetTable.layClean
    rw [← Array.foldl_toList]
    have : (hs.toList.foldl (fun acc h => do
        let (owner, k) ← acc
        let j ← SetTable.layClean.free m owner (SetTable.turns m) (SetTable.bits h % (m + 1)) (SetTable.bits h)
        pure (owner.setIfInBounds j (some k), k + 1)) (some (Array.replicate (m + 1) none, 0))) = some (o, 0 + hs.toList.length) := e
    rw [show (List.foldl _ _ hs.toList) = _ from this]
    rfl
  · rw [Array.length_toList, Nat.zero_add] at P
    exact P
/-- a table laid: the order of the entries is an arrangement -/
theorem laid_ok {m : Nat} (h : mk m) (f mv : Nat) (led pl : Bool) (hs : Array Int) (hn : hs.size ≤ m) : ∃ t order, SetTable.laid m f mv led pl hs = some (t, order) ∧ order.toList.Perm (List.range hs.size) ∧ t.fits hs.size = true ∧ L2.Ris t.place.toList ∧ t.led = led ∧ t.mask = m ∧ t.dummies = #[] := by
  obtain ⟨o, e, P⟩ := clean_ok h hs (by omega)
  let live := (List.range (m + 1)).filterMap fun j => (o.getD j none).map (j, ·)
  have hm : ∀ j x, (j, x) ∈ live ↔ o[j]? = some (some x) := by
    intro j x
    rw [List.mem_filterMap]
    constructor
    · rintro ⟨i, hi, e⟩
      obtain ⟨y, ey, e2⟩ := Option.map_eq_some_iff.mp e
      have e3 : i = j := congrArg Prod.fst e2
      have e4 : y = x := congrArg Prod.snd e2
      subst e3 e4
      rw [Array.getD_eq_getD_getElem?] at ey
      cases q : o[i]? with
      | none => rw [q] at ey; cases ey
      | some z => rw [q] at ey; rw [show z = some y from ey]
    · intro e
      refine ⟨j, List.mem_range.mpr (by have := (Array.getElem?_eq_some_iff.mp e).1; rw [P.sz] at this; exact this), ?_⟩
      rw [Array.getD_eq_getD_getElem?, e]
      rfl
  have pw : (live.map (·.1)).Pairwise (· < ·) := by
    have gen : ∀ l : List Nat, l.Pairwise (· < ·) → ((l.filterMap fun j => (o.getD j none).map (j, ·)).map (·.1)).Pairwise (· < ·) ∧ ∀ x ∈ (l.filterMap fun j => (o.getD j none).map (j, ·)).map (·.1), x ∈ l := by
      intro l
      induction l with
      | nil => exact fun _ => ⟨.nil, by simp⟩
      | cons a l ih =>
        intro hp
        obtain ⟨h1, h2⟩ := List.pairwise_cons.mp hp
        obtain ⟨q1, q2⟩ := ih h2
        rw [List.filterMap_cons]
        cases z : o.getD a none with
        | none => exact ⟨q1, fun x hx => List.mem_cons_of_mem _ (q2 x hx)⟩
        | some y =>
          refine ⟨List.pairwise_cons.mpr ⟨fun b hb => h1 b (q2 b hb), q1⟩, fun x hx => ?_⟩
          rcases List.mem_cons.mp hx with e | m
          · rw [e]; simp
          · exact List.mem_cons_of_mem _ (q2 x m)
    exact (gen _ List.pairwise_lt_range).1
  have nd : (live.map (·.1)).Nodup := List.nodup_iff_pairwise_ne.mpr (pw.imp fun h => Nat.ne_of_lt h)
  have hall : ∀ k, k < hs.size → k ∈ live.map (·.2) := fun k hk => by
    obtain ⟨j, _, e⟩ := P.all k hk
    exact List.mem_map.mpr ⟨(j, k), (hm j k).mpr e, rfl⟩
  have hlen : live.length = hs.size := by
    obtain ⟨ps, p1, p2⟩ := P.ps
    have a := nd.length_le_of_subset (fun x hx => by
      obtain ⟨q, hq, e⟩ := List.mem_map.mp hx
      obtain ⟨j, y⟩ := q
      exact p2 x y (by rw [← e]; exact (hm j y).mp hq) : live.map (·.1) ⊆ ps)
    have b := (List.nodup_range (n := hs.size)).length_le_of_subset (fun k hk => hall k (List.mem_range.mp hk) : List.range hs.size ⊆ live.map (·.2))
    rw [List.length_map] at a b
    rw [List.length_range] at b
    omega
  refine ⟨{ mask := m, place := (live.map (·.1)).toArray, dummies := #[], finger := f, led, moves := mv, plain := pl }, (live.map (·.2)).toArray, ?_, ?_, ?_, pw, rfl, rfl, rfl⟩
  · unfold SetTable.laid
    rw [e]
    rfl
  · exact L2.perm_range hs.size _ (by rw [List.length_map]; exact hlen) hall
  · unfold SetTable.fits SetTable.fill
    rw [Bool.and_eq_true, beq_iff_eq, decide_eq_true_eq]
    show (live.map (·.1)).toArray.size = hs.size ∧ (live.map (·.1)).toArray.size + 0 ≤ m
    rw [List.size_toArray, List.length_map, hlen]
    exact ⟨rfl, hn⟩
/-- the entries in that order -/
theorem entries_perm (es : Array (Int × Value)) (order : Array Nat) (hp : order.toList.Perm (List.range es.size)) : (order.filterMap (es[·]?)).toList.Perm es.toList := by
  rw [Array.toList_filterMap]
  have h1 := hp.filterMap (fun i => es[i]?)
  refine h1.trans ?_
  have key : ∀ n, n ≤ es.size → (List.range n).filterMap (fun i => es[i]?) = es.toList.take n := by
    intro n
    induction n with
    | zero => intro _; rfl
    | succ n ih =>
      intro hn
      rw [List.range_succ, List.filterMap_append, ih (by omega), List.take_add_one]
      simp [Array.getElem?_eq_getElem (show n < es.size by omega)]
  rw [key es.size (Nat.le_refl _), ← Array.length_toList, List.take_length]
end PvSet
end
section
set_option Elab.async false
set_option linter.all false
set_option maxRecDepth 100000
set_option maxHeartbeats 2000000
namespace PvSet
open PySem PySem.Spec PyProof.Rows L2
section
variable {P : Program} {w : World} {A : Around} {E : Value → Shared → Prop} {s : Shared}
theorem above_ok : ∀ n, n < 128 → mk (SetTable.sizeAbove n - 1) ∧ n < SetTable.sizeAbove n ∧ SetTable.sizeAbove n ≤ 128 := by
  have : (List.range 128).all (fun n => (let a := SetTable.sizeAbove n; (a == 8 || a == 16 || a == 32 || a == 64 || a == 128) && decide (n < a))) = true := by decide +kernel
  intro n hn
  have h := List.all_eq_true.mp this n (List.mem_range.mpr hn)
  simp only [Bool.and_eq_true, Bool.or_eq_true, beq_iff_eq, decide_eq_true_eq] at h
  obtain ⟨h1, h2⟩ := h
  unfold mk
  omega
/-- explicit: the set at a has these entries, this table -/
structure SE (w : World) (h : Heap) (a : Addr) (es : Array (Int × Value)) (t : SetTable) : Prop where
  ob : ∃ o ep, h.get? a = some o ∧ o.ExactSet ∧ o.data = .set es ep t
  good : ∀ e ∈ es.toList, GoodE e
  nd : (es.toList.map keyOf).Nodup
  few : es.size ≤ 1000
  fit : t.fits es.size = true
  ris : Ris t.place.toList
  led : w.params.followText "set-order" = true ∨ t.led = true
theorem SE.r {h : Heap} {a : Addr} {es : Array (Int × Value)} {t : SetTable} {S : Int → Bool} (x : SE w h a es t) (m : ∀ k, S k = true ↔ k ∈ es.toList.map keyOf) : SetR w h a S es.size := by
  obtain ⟨o, ep, h1, h2, h3⟩ := x.ob
  exact ⟨o, es, ep, t, h1, h2, h3, x.good, x.nd, m, Nat.lt_of_le_of_lt x.few (by decide), x.fit, rfl, x.ris, x.led⟩
theorem SE.of {h : Heap} {a : Addr} {S : Int → Bool} {n : Nat} (x : SetR w h a S n) (hn : n ≤ 1000) : ∃ es t, SE w h a es t ∧ es.size = n ∧ ∀ k, S k = true ↔ k ∈ es.toList.map keyOf := by
  obtain ⟨o, es, ep, t, h1, h2, h3, g, nd, m, b, f, e, r, l⟩ := x
  exact ⟨es, t, ⟨⟨o, ep, h1, h2, h3⟩, g, nd, by omega, f, r, l⟩, e, m⟩
theorem SE.at {h h' : Heap} {a b : Addr} {es : Array (Int × Value)} {t : SetTable} (x : SE w h a es t) (sb : Heap.SameBut b h h') (ne : a ≠ b) : SE w h' a es t := by
  obtain ⟨o, ep, h1, h2, h3⟩ := x.ob
  exact ⟨⟨o, ep, (sb.2 a ne).trans h1, h2, h3⟩, x.good, x.nd, x.few, x.fit, x.ris, x.led⟩
theorem SE.state {a : Addr} {es : Array (Int × Value)} {t : SetTable} {Q : (Array (Int × Value) × Nat × SetTable) → Shared → Prop} (x : SE w s.heap a es t) (h : ∀ ep, Q (es, ep, t) s) : wpAny (model P w) A (setState a) Q E s := by
  obtain ⟨o, ep, h1, h2, h3⟩ := x.ob
  exact wpAny_setState_of h1 h3 x.fit (h ep)
theorem SE.store {a : Addr} {es es' : Array (Int × Value)} {t t' : SetTable} {Q : Unit → Shared → Prop} (x : SE w s.heap a es t) (good : ∀ e ∈ es'.toList, GoodE e) (nd : (es'.toList.map keyOf).Nodup) (few : es'.size ≤ 1000) (fit : t'.fits es'.size = true) (ris : Ris t'.place.toList) (led : w.params.followText "set-order" = true ∨ t'.led = true)
    (h : ∀ h', Heap.SameBut a s.heap h' → SE w h' a es' t' → Q () { s with heap := h' }) : wpAny (model P w) A (storeSet a es' t') Q E s := by
  obtain ⟨o, ep, h1, h2, h3⟩ := x.ob
  refine wpAny_storeSet_of h1 h3 (h _ (Heap.SameBut.update ..) ⟨⟨_, _, store_at h1 h3, h2, rfl⟩, good, nd, few, fit, ris, led⟩) (fits_of_scanBound (Nat.lt_of_le_of_lt few (by decide)))
theorem fits_le {t : SetTable} {n : Nat} (h : t.fits n = true) : t.place.size = n ∧ t.place.size + t.dummies.size ≤ t.mask := by
  unfold SetTable.fits SetTable.fill at h
  rw [Bool.and_eq_true, beq_iff_eq, decide_eq_true_eq] at h
  exact h
/-- the table is laid anew -/
theorem relay {a : Addr} {es : Array (Int × Value)} {t : SetTable} {wanted : Nat} {Q : Unit → Shared → Prop} (x : SE w s.heap a es t) (hw : wanted < 128) (hn : es.size ≤ wanted)
    (h : ∀ h' es' t', Heap.SameBut a s.heap h' → SE w h' a es' t' → es'.toList.Perm es.toList → mk t'.mask ∧ t'.dummies = #[] → wanted ≤ t'.mask → Q () { s with heap := h' }) : wpAny (model P w) A (setRelay a wanted) Q E s := by
  obtain ⟨m1, m2, m3⟩ := above_ok wanted hw
  obtain ⟨t', order, e, p, f, r, l, em, ed⟩ := laid_ok m1 t.finger (t.movedTo (SetTable.sizeAbove wanted - 1)) t.led t.plain (es.map (·.1)) (by rw [Array.size_map]; omega)
  rw [Array.size_map] at p f
  have pm := entries_perm es order p
  have hs2 : (order.filterMap (es[·]?)).size = es.size := by rw [← Array.length_toList, pm.length_eq, Array.length_toList]
  rw [setRelay_eq]
  refine wpAny_bind (x.state fun ep => ?_)
  dsimp only
  refine wp_if_neg (by rw [sizeLine_eq]; omega) ?_
  try refine wpAny_bind (wpAny_pure ?_)
  rw [show t.relaid (es.map (·.1)) wanted = some (t', order) from e]
  dsimp only
  refine wpAny_bind ?_
  refine wp_if_neg (by rw [hs2]; simp) ?_
  try refine wpAny_bind (wpAny_pure ?_)
  refine wpAny_pure ?_
  refine x.store (fun e he => x.good e (pm.mem_iff.mp he)) ((pm.map keyOf).nodup_iff.mpr x.nd) (by rw [hs2]; exact x.few) (by rw [hs2]; exact f) r (x.led.imp id fun z => by rw [l]; exact z) fun h' sb y => h h' _ t' sb y pm ⟨by rw [em]; exact m1, ed⟩ (by rw [em]; omega)
/-- room for more -/
theorem room {a : Addr} {es : Array (Int × Value)} {t : SetTable} {more : Nat} {Q : Unit → Shared → Prop} (x : SE w s.heap a es t) (hw : (es.size + more) * 2 < 128)
    (h : ∀ h' es' t', Heap.SameBut a s.heap h' → SE w h' a es' t' → es'.toList.Perm es.toList → ((mk t'.mask ∧ t'.dummies = #[]) ∨ (es' = es ∧ t' = t)) → es.size + more ≤ t'.mask → Q () { s with heap := h' }) : wpAny (model P w) A (setRoomFor a more) Q E s := by
  unfold setRoomFor
  refine wpAny_bind (x.state fun ep => ?_)
  dsimp only
  cases e : t.roomFor more with
  | none =>
    refine wpAny_pure (h s.heap es t (Heap.SameBut.refl a s.heap) x (List.Perm.refl _) (.inr ⟨rfl, rfl⟩) ?_)
    unfold SetTable.roomFor at e
    split at e
    · cases e
    · rename_i z
      unfold SetTable.fill at z
      have := (fits_le x.fit).1
      omega
  | some wanted =>
    have hwant : wanted = (es.size + more) * 2 := by
      unfold SetTable.roomFor at e
      split at e
      · rw [← (fits_le x.fit).1]
        exact (Option.some.inj e).symm
      · cases e
    dsimp only
    exact relay x (by omega) (by omega) fun h' es' t' a b c d e => h h' es' t' a b c (.inl d) (by omega)
theorem erase_perm {α : Type} : ∀ (l : List α) (i : Nat) (h : i < l.length), (l[i] :: l.eraseIdx i).Perm l
  | x :: l, 0, _ => List.Perm.refl _
  | x :: l, i + 1, h => by
    have hi : i < l.length := by simpa using h
    show (l[i] :: x :: l.eraseIdx i).Perm (x :: l)
    exact (List.Perm.swap _ _ _).trans ((erase_perm l i (by simpa using h)).cons x)
theorem pick_perm {α : Type} (next : Nat → Nat) : ∀ (f k : Nat) (l : List α) (out : Array α), f = l.length → (pickOrder.go next f k l out).toList.Perm (out.toList ++ l)
  | 0, k, l, out, h => by
    rw [List.eq_nil_of_length_eq_zero h.symm]
    unfold pickOrder.go
    simp
  | f + 1, k, l, out, h => by
    have hl : next k % l.length < l.length := Nat.mod_lt _ (by omega)
    unfold pickOrder.go
    rw [List.getElem?_eq_getElem hl]
    dsimp only
    refine (pick_perm next f (k + 1) _ _ (by rw [List.length_eraseIdx_of_lt hl]; omega)).trans ?_
    rw [Array.toList_push, List.append_assoc]
    refine List.Perm.append_left _ ?_
    exact erase_perm l _ hl
/-- a walk that nobody sees: all entries, in some order; the set that is filled may be marked -/
theorem unseen {a f : Addr} {es ef : Array (Int × Value)} {t tf : SetTable} {Q : Array (Int × Value) → Shared → Prop} (x : SE w s.heap a es t) (y : SE w s.heap f ef tf) (ne : a ≠ f)
    (h : ∀ (out : Array (Int × Value)) h' tf', out.toList.Perm es.toList → Heap.SameBut f s.heap h' → SE w h' f ef tf' → Q out { s with heap := h' }) : wpAny (model P w) A (setWalkUnseen a [f] (some f)) Q E s := by
  have same : ∀ out : Array (Int × Value), out.toList.Perm es.toList → Q out s := fun out p => h out s.heap tf p (Heap.SameBut.refl f s.heap) y
  unfold setWalkUnseen
  refine wpAny_bind (x.state fun ep => ?_)
  dsimp only
  refine wpAny_bind (wpAny_byText ?_)
  have walk : (w.params.followText "set-order" = true ∨ t.plain = true ∨ es.size ≤ 1) → wpAny (model P w) A (setWalk a) Q E s := by
    intro hc
    unfold setWalk
    refine wpAny_bind (x.state fun ep => ?_)
    dsimp only
    refine wpAny_bind (wpAny_byText ?_)
    by_cases hb : w.params.followText "set-order" = true
    · refine wp_if_pos hb ?_
      refine wpAny_bind (wpAny_askSetting (wpAny_pure (same _ ?_)))
      have := pick_perm (w.params.setOrder a ep) es.size 0 es.toList #[] (by rw [Array.length_toList])
      exact this
    · refine wp_if_neg hb ?_
      have hl : t.led = true := x.led.resolve_left hb
      have hd : (!t.plain && decide (es.size > 1)) = false := by
        rcases hc with z | z | z
        · exact absurd z hb
        · rw [z]; rfl
        · rw [decide_eq_false (by omega), Bool.and_false]
      refine wp_if_neg (by show ¬ ((!t.plain && decide (es.size > 1)) = true); rw [hd]; simp) ?_
      refine wpAny_bind (wpAny_of_eq (a := ()) ?_ (wpAny_pure (same _ (List.Perm.refl _))))
      show (if (!t.led && decide (es.size > 1)) = true then unsupported "set:maker-not-led" else pure ()) = pure ()
      rw [hl]
      rfl
  by_cases hc : (w.params.followText "set-order" || (t.led && t.plain) || decide (es.size ≤ 1)) = true
  · refine wp_if_pos hc ?_
    refine walk ?_
    simp only [Bool.or_eq_true, Bool.and_eq_true, decide_eq_true_eq] at hc
    rcases hc with (hc | hc) | hc
    · exact .inl hc
    · exact .inr (.inl hc.2)
    · exact .inr (.inr hc)
  · refine wp_if_neg hc ?_
    have quiet : ∀ (R : Bool → Shared → Prop), R true s → wpAny (model P w) A (setsQuiet [a, f]) R E s := by
      intro R hR
      unfold setsQuiet
      refine wpAny_bind (wpAny_mono (wpAny_forIn_list _ (fun rest r s' => r = (none, ()) ∧ s' = s ∧ ∀ b ∈ rest, ∃ eb tb, SE w s.heap b eb tb) (fun r s' => r = (none, ()) ∧ s' = s) ?_ ?_ [a, f] (none, ()) ?_) (fun r s' q => ?_) fun _ _ z => z)
      · rintro b rest r s' ⟨rfl, rfl, hb⟩
        obtain ⟨eb, tb, xb⟩ := hb b (by simp)
        refine wpAny_bind (m := setEntries b) ?_
        unfold setEntries
        refine wpAny_bind (xb.state fun _ => wpAny_pure ?_)
        rw [← Array.forIn_toList]
        refine wpAny_bind (wpAny_mono (wpAny_forIn_list _ (fun rest r s2 => r = (none, ()) ∧ s2 = s' ∧ ∀ e ∈ rest, GoodE e) (fun r s2 => r = (none, ()) ∧ s2 = s') ?_ ?_ eb.toList (none, ()) ⟨rfl, rfl, xb.good⟩) (fun r2 s2 q => ?_) fun _ _ z => z)
        · rintro ⟨h1, v⟩ rest r2 s2 ⟨rfl, rfl, hg⟩
          obtain ⟨k, tk, e1, _⟩ := hg (h1, v) (by simp)
          have e1 : v = .int k tk := e1
          subst e1
          exact wpAny_pure ⟨rfl, rfl, fun e he => hg e (List.mem_cons_of_mem _ he)⟩
        · rintro r2 s2 ⟨h1, h2, _⟩
          exact ⟨h1, h2⟩
        · obtain ⟨rfl, rfl⟩ := q
          exact wpAny_pure ⟨rfl, rfl, fun b hb2 => hb b (List.mem_cons_of_mem _ hb2)⟩
      · rintro r s' ⟨h1, h2, _⟩
        exact ⟨h1, h2⟩
      · refine ⟨rfl, rfl, fun b hb => ?_⟩
        rcases List.mem_cons.mp hb with e | m
        · exact ⟨es, t, by rw [e]; exact x⟩
        · exact ⟨ef, tf, by rw [List.mem_singleton.mp m]; exact y⟩
      · obtain ⟨rfl, rfl⟩ := q
        exact wpAny_pure hR
    refine wpAny_bind (quiet _ ?_)
    refine wp_if_neg (by simp) ?_
    refine wpAny_bind (wpAny_rule ?_)
    refine wpAny_bind (y.state fun ep2 => ?_)
    dsimp only
    by_cases hm : (tf.led && !t.led || tf.plain && !t.plain) = true
    · refine wp_if_pos hm ?_
      refine wpAny_bind (y.store y.good y.nd y.few y.fit y.ris ?_ fun h' sb y' => wpAny_pure (h es h' _ (List.Perm.refl _) sb y'))
      rcases x.led with z | z
      · exact .inl z
      · exact y.led.imp id fun z2 => by rw [z, z2]; rfl
    · refine wp_if_neg hm ?_
      exact wpAny_pure (same _ (List.Perm.refl _))
/-- r takes all of o in -/
theorem merge {r o : Addr} {er eo : Array (Int × Value)} {tr to : SetTable} {each : Sem Unit} {Q : Unit → Shared → Prop} (x : SE w s.heap r er tr) (y : SE w s.heap o eo to) (ne : o ≠ r) (fresh : er.size = 0 → mk tr.mask ∧ tr.dummies = #[]) (few : er.size + eo.size ≤ 60)
    (heach : ∀ (s1 : Shared) (Q' : Unit → Shared → Prop), Heap.SameBut r s.heap s1.heap → Q' () s1 → wpAny (model P w) A each Q' E s1)
    (h : ∀ h' er' tr', Heap.SameBut r s.heap h' → SE w h' r er' tr' → (∀ k, k ∈ er'.toList.map keyOf ↔ k ∈ er.toList.map keyOf ∨ k ∈ eo.toList.map keyOf) → er'.size ≤ er.size + eo.size → (er'.size = 0 → tr' = tr) → Q () { s with heap := h' }) : wpAny (model P w) A (setMerge r o each) Q E s := by
  unfold setMerge
  refine wp_if_neg (by simp; exact fun z => ne z.symm) ?_
  obtain ⟨oo, ep, ho, hx, hd⟩ := y.ob
  refine wpAny_bind (wpAny_setState_of ho hd y.fit ?_)
  dsimp only
  by_cases he : eo.isEmpty = true
  · refine wp_if_pos he ?_
    have e0 : eo = #[] := Array.isEmpty_iff.mp he
    subst e0
    exact wpAny_pure (h s.heap er tr (Heap.SameBut.refl r s.heap) x (fun k => by simp) (by simp) (fun _ => rfl))
  refine wp_if_neg he ?_
  have hpos : 0 < eo.size := by
    rcases Nat.eq_zero_or_pos eo.size with z | z
    · exact absurd (by rw [Array.isEmpty_iff, ← Array.size_eq_zero_iff]; exact z) he
    · exact z
  refine wpAny_bind (room x (by omega) fun h1 er1 tr1 sb1 x1 p1 c1 m1 => ?_)
  have hs1 : er1.size = er.size := by rw [← Array.length_toList, p1.length_eq, Array.length_toList]
  have y1 : SE w h1 o eo to := y.at sb1 ne
  have ho1 : h1.get? o = some oo := (sb1.2 o ne).trans ho
  have k1 : ∀ k, k ∈ er1.toList.map keyOf ↔ k ∈ er.toList.map keyOf := fun k => (p1.map keyOf).mem_iff
  refine wpAny_bind (SE.state (s := { s with heap := h1 }) x1 fun ep1 => ?_)
  dsimp only
  have led2 : w.params.followText "set-order" = true ∨ (tr1.led && to.led) = true := by
    rcases x1.led with z | z
    · exact .inl z
    · exact y.led.imp id fun z2 => by rw [z, z2]; rfl
  rcases Nat.eq_zero_or_pos er.size with hz | hz
  · -- r is empty
    have f1 : mk tr1.mask ∧ tr1.dummies = #[] := by
      rcases c1 with c | ⟨_, c⟩
      · exact c
      · rw [c]; exact fresh hz
    have fill0 : tr1.fill = 0 := by
      unfold SetTable.fill
      rw [f1.2, (fits_le x1.fit).1, hs1, hz]
      rfl
    have er0 : ∀ k, k ∈ er.toList.map keyOf ↔ False := fun k => by
      rw [Array.size_eq_zero_iff.mp hz]
      simp
    unfold SetTable.road
    rw [if_neg (by rw [fill0]; simp)]
    by_cases hr : (tr1.mask == to.mask && to.dummies.isEmpty) = true
    · rw [if_pos hr]
      dsimp only
      refine SE.store (s := { s with heap := h1 }) x1 y.good y.nd y.few y.fit y.ris led2 fun h2 sb2 x2 => ?_
      exact h h2 eo _ (sb1.trans sb2) x2 (fun k => by rw [er0]; simp) (by omega) (fun z => absurd z (by omega))
    · rw [if_neg hr]
      dsimp only
      obtain ⟨t', order, e, p, f, ri, l, em, ed⟩ := laid_ok f1.1 tr1.finger tr1.moves (tr1.led && to.led) (tr1.plain && to.plain) (eo.map (·.1)) (by rw [Array.size_map]; omega)
      rw [Array.size_map] at p f
      have pm := entries_perm eo order p
      have hs2 : (order.filterMap (eo[·]?)).size = eo.size := by rw [← Array.length_toList, pm.length_eq, Array.length_toList]
      refine wpAny_bind (m := (do
        let some (t, order) := SetTable.laid tr1.mask tr1.finger tr1.moves (tr1.led && to.led) (tr1.plain && to.plain) (eo.map (·.1)) | unsupported "internal:set-table-without-room"
        let es' := order.filterMap (eo[·]?)
        if es'.size != eo.size then unsupported "internal:set-table-lost-an-element"
        pure (es', t) : Sem (Array (Int × Value) × SetTable))) ?_
      rw [e]
      dsimp only
      refine wp_if_neg (by rw [hs2]; simp) ?_
      try refine wpAny_bind (wpAny_pure ?_)
      refine wpAny_pure ?_
      dsimp only
      refine SE.store (s := { s with heap := h1 }) x1 (fun e he => y.good e (pm.mem_iff.mp he)) ((pm.map keyOf).nodup_iff.mpr y.nd) (by rw [hs2]; exact y.few) (by rw [hs2]; exact f) ri (by rw [l]; exact led2) fun h2 sb2 x2 => ?_
      exact h h2 _ _ (sb1.trans sb2) x2 (fun k => by rw [er0, (pm.map keyOf).mem_iff]; simp) (by rw [hs2]; omega) (fun z => absurd z (by rw [hs2]; omega))
  · have fill1 : tr1.fill ≠ 0 := by
      unfold SetTable.fill
      rw [(fits_le x1.fit).1, hs1]
      omega
    unfold SetTable.road
    rw [if_pos (by simp [fill1])]
    dsimp only
    refine wpAny_bind (unseen (s := { s with heap := h1 }) y1 x1 ne fun out h2 tr2 po sb2 x2 => ?_)
    rw [← Array.forIn_toList]
    refine wpAny_bind (wpAny_mono (wpAny_forIn_list _ (fun rest _ s' => ∃ h' S' n', s' = { s with heap := h' } ∧ Heap.SameBut r s.heap h' ∧ SetR w h' r S' n' ∧ (∀ e ∈ rest, GoodE e) ∧ n' + rest.length ≤ er.size + eo.size ∧ er.size ≤ n' ∧ ∀ k, (S' k = true ∨ k ∈ rest.map keyOf) ↔ k ∈ er.toList.map keyOf ∨ k ∈ eo.toList.map keyOf)
      (fun _ s' => ∃ h' S' n', s' = { s with heap := h' } ∧ Heap.SameBut r s.heap h' ∧ SetR w h' r S' n' ∧ n' ≤ er.size + eo.size ∧ er.size ≤ n' ∧ ∀ k, S' k = true ↔ k ∈ er.toList.map keyOf ∨ k ∈ eo.toList.map keyOf) ?_ ?_ out.toList PUnit.unit ?_) (fun _ s' q => ?_) fun _ _ z => z)
    · rintro ⟨hh, v⟩ rest b s' ⟨h', S', n', rfl, sb, R, g, hn, hge, hk⟩
      obtain ⟨k, tk, e1, e2⟩ := g (hh, v) (by simp)
      have e1 : v = .int k tk := e1
      have e2 : hh = hashInt k := e2
      subst e1 e2
      dsimp only
      rw [List.length_cons] at hn
      refine wpAny_bind (wpAny_holding (setR_add_hashed (P := P) (s := { s with heap := h' }) R (by show n' + 1 < 4096; omega) fun h3 sb3 R3 => ?_))
      refine wpAny_bind (heach _ _ (sb.trans sb3) ?_)
      refine wpAny_bind (wpAny_setState_of (s := { s with heap := h3 }) (((sb.trans sb3).2 o ne).trans ho) hd y.fit ?_)
      refine wp_if_neg (by simp) ?_
      refine wpAny_pure ⟨h3, _, _, rfl, sb.trans sb3, R3, fun e he => g e (List.mem_cons_of_mem _ he), ?_, ?_, fun j => ?_⟩
      · split <;> omega
      · split <;> omega
      · rw [← hk j, List.map_cons, List.mem_cons, Bool.or_eq_true, decide_eq_true_eq, or_assoc]
        rfl
    · rintro b s' ⟨h', S', n', rfl, sb, R, g, hn, hge, hk⟩
      exact ⟨h', S', n', rfl, sb, R, by simpa using hn, hge, fun k => by rw [← hk k]; simp⟩
    · refine ⟨h2, _, _, rfl, sb1.trans sb2, x2.r (S := fun k => decide (k ∈ er1.toList.map keyOf)) (fun k => by rw [decide_eq_true_eq]), fun e he => y.good e (po.mem_iff.mp he), ?_, by omega, fun k => ?_⟩
      · rw [po.length_eq, Array.length_toList, hs1]; omega
      · rw [decide_eq_true_eq, k1, (po.map keyOf).mem_iff]
    · obtain ⟨h', S', n', rfl, sb, R, hn, hge, hk⟩ := q
      obtain ⟨e3, t3, x3, e4, e5⟩ := SE.of R (by omega)
      exact wpAny_pure (h h' e3 t3 sb x3 (fun k => by rw [← e5, hk]) (by omega) (fun z => absurd z (by omega)))
end
end PvSet
end
section
set_option Elab.async false
set_option linter.all false
set_option maxRecDepth 100000
set_option maxHeartbeats 2000000
namespace PvSet
open PySem PySem.Spec PyProof.Rows L2
theorem entry_or : entryFor table "set.__or__" = some Builtin.«frozenset.__or__» := entryFor_alias (id' := "frozenset.__or__") (by kernel_rfl) rfl (by decide +kernel) (by kernel_rfl)
theorem ss : isSubtype (.type "set") (.type "set") = pure true := by rw [isSubtype_type]; kernel_rfl
section
variable {P : Program} {w : World} {A : Around} {E : Value → Shared → Prop} {s : Shared}
theorem SE.isSet {h : Heap} {a : Addr} {es : Array (Int × Value)} {t : SetTable} (x : SE w h a es t) : ∃ o, h.get? a = some o ∧ o.cls = .type "set" := by
  obtain ⟨o, ep, h1, h2, h3⟩ := x.ob
  exact ⟨o, h1, h2.1⟩
theorem new_at {h : Heap} {a : Addr} (e : h.get? a = some { cls := .type "set", dict := none, data := .set #[] 0 (.fresh 0 0 (!w.params.followText "set-order")) }) : SE w h a #[] (.fresh 0 0 (!w.params.followText "set-order")) := by
  refine ⟨⟨_, _, e, ⟨rfl, rfl, rfl⟩, rfl⟩, by simp, by simp, by simp, by rfl, List.Pairwise.nil, ?_⟩
  cases hq : w.params.followText "set-order" with
  | true => exact .inl rfl
  | false => exact .inr rfl
/-- a new set, a copy of another -/
theorem copy {a : Addr} {es : Array (Int × Value)} {t : SetTable} {Q : Value → Shared → Prop} (x : SE w s.heap a es t) (few : es.size ≤ 60)
    (h : ∀ h' es' t', Heap.SameBut s.heap.objs.size (s.heap.push { cls := .type "set", dict := none, data := .set #[] 0 (.fresh 0 0 (!w.params.followText "set-order")) }) h' → SE w h' s.heap.objs.size es' t' → (∀ k, k ∈ es'.toList.map keyOf ↔ k ∈ es.toList.map keyOf) → es'.size ≤ es.size → (es'.size = 0 → mk t'.mask ∧ t'.dummies = #[]) → Q (.ref s.heap.objs.size) { s with heap := h' }) :
    wpAny (model P w) A (Builtin.Frozenset.copyOf a) Q E s := by
  obtain ⟨o, ho, hc⟩ := x.isSet
  have hsub := sub_set_self
  unfold Builtin.Frozenset.copyOf
  refine wpAny_bind (m := Builtin.Frozenset.baseOf a) ?_
  unfold Builtin.Frozenset.baseOf
  refine wpAny_bind (wpAny_isInstance ⟨o, ho, hc⟩ ss ?_)
  refine wpAny_pure ?_
  refine wpAny_bind (m := newSet (.type "set")) ?_
  unfold newSet
  refine wpAny_bind (wpAny_byText ?_)
  dsimp only
  simp only [newObj]
  refine wp_if_neg (by simp) ?_
  refine wpAny_bind (wpAny_alloc (wpAny_pure ?_))
  refine wpAny_bind (m := Builtin.Frozenset.addrOf _) (wpAny_pure ?_)
  have hn := new_at (w := w) (Heap.get?_push_size s.heap (o := { cls := .type "set", dict := none, data := .set #[] 0 (.fresh 0 0 (!w.params.followText "set-order")) }) rfl)
  have xk : SE w (s.heap.push { cls := .type "set", dict := none, data := .set #[] 0 (.fresh 0 0 (!w.params.followText "set-order")) }) a es t := by
    obtain ⟨o, ep, h1, h2, h3⟩ := x.ob
    exact ⟨⟨o, ep, Heap.get?_push_of_some _ h1, h2, h3⟩, x.good, x.nd, x.few, x.fit, x.ris, x.led⟩
  have ne : a ≠ s.heap.objs.size := Nat.ne_of_lt (Heap.lt_size ho)
  refine wpAny_bind (merge (s := { s with heap := s.heap.push { cls := .type "set", dict := none, data := .set #[] 0 (.fresh 0 0 (!w.params.followText "set-order")) } }) hn xk ne (fun _ => ⟨.inl rfl, rfl⟩) (by simpa using few) (fun _ _ _ q => wpAny_pure q) fun h' er' tr' sb x' hk hs h0 => wpAny_pure ?_)
  exact h h' er' tr' sb x' (fun k => by rw [hk]; simp) (by simpa using hs) (fun z => by rw [h0 z]; exact ⟨.inl rfl, rfl⟩)
theorem both {a b : Addr} {Q : Bool → Shared → Prop} (tA : s.TypeIs (.ref a) "set") (tB : s.TypeIs (.ref b) "set") (h : Q true s) : wpAny (model P w) A (Builtin.Frozenset.isAnySet (.ref a) <&&> Builtin.Frozenset.isAnySet (.ref b)) Q E s := by
  obtain ⟨⟨oc, od, dt, osl⟩, ha, ca⟩ := tA
  have ca : oc = .type "set" := ca
  subst ca
  obtain ⟨⟨oc, od2, dt2, osl2⟩, hb, cb⟩ := tB
  have cb : oc = .type "set" := cb
  subst cb
  have hss := ss
  unfold Builtin.Frozenset.isAnySet
  wp_walk
  exact h
theorem one {a : Addr} {Q : Bool → Shared → Prop} (tA : s.TypeIs (.ref a) "set") (h : Q true s) : wpAny (model P w) A (Builtin.Frozenset.isAnySet (.ref a)) Q E s := by
  obtain ⟨⟨oc, od, dt, osl⟩, ha, ca⟩ := tA
  have ca : oc = .type "set" := ca
  subst ca
  have hss := ss
  unfold Builtin.Frozenset.isAnySet
  wp_walk
  exact h
theorem or_run {a b : Addr} {ea eb : Array (Int × Value)} {ta tb : SetTable} {Q : Value → Shared → Prop} (x : SE w s.heap a ea ta) (y : SE w s.heap b eb tb) (few : ea.size + eb.size ≤ 60)
    (h : ∀ h' e t, (∀ c o, s.heap.get? c = some o → h'.get? c = some o) → SE w h' s.heap.objs.size e t → (∀ k, k ∈ e.toList.map keyOf ↔ k ∈ ea.toList.map keyOf ∨ k ∈ eb.toList.map keyOf) → e.size ≤ ea.size + eb.size → Q (.ref s.heap.objs.size) { s with heap := h' }) : wpAny (model P w) A (binaryOp .BitOr (.ref a) (.ref b)) Q E s := by
  obtain ⟨oa, ha, ca⟩ := x.isSet
  obtain ⟨ob, hb, cb⟩ := y.isSet
  have tA : s.TypeIs (.ref a) "set" := ⟨oa, ha, ca⟩
  have tB : s.TypeIs (.ref b) "set" := ⟨ob, hb, cb⟩
  refine wpAny_binaryOp_same (op := .BitOr) tA tB F.fills_set_or F.slot_set_or (wpAny_call_entry F.slot_set_or tA entry_or ?_ (F.args_set_or_2 _ _))
  refine wpAny_bind (m := Builtin.Frozenset.slot1 "__or__" ⟨[.ref a, .ref b], []⟩) (wpAny_of_eq (a := (Value.ref a, Value.ref b)) (by rfl) ?_)
  dsimp only
  refine wpAny_bind (both tA tB ?_)
  refine wp_if_neg (by simp) ?_
  refine wpAny_bind (m := Builtin.Frozenset.addrOf (.ref a)) (wpAny_pure ?_)
  refine wpAny_bind (m := (do
    let result ← Builtin.Frozenset.copyOf a
    if Value.ref b != .ref a then holding [result] (Builtin.Frozenset.updateFrom (toString "frozenset." ++ toString "__or__") (← Builtin.Frozenset.addrOf result) (.ref b))
    return result : Sem Value)) ?_
  refine wpAny_bind (copy x (by omega) fun h1 e1 t1 sb1 x1 k1 l1 z1 => ?_)
  have lt : ∀ c o, s.heap.get? c = some o → c ≠ s.heap.objs.size := fun c o e => Nat.ne_of_lt (Heap.lt_size e)
  have kp : ∀ c o, s.heap.get? c = some o → h1.get? c = some o := fun c o e => (sb1.2 c (lt c o e)).trans (Heap.get?_push_of_some _ e)
  by_cases hab : b = a
  · subst hab
    refine wp_if_neg (by simp) ?_
    try refine wpAny_bind (wpAny_pure ?_)
    refine wpAny_pure ?_
    refine wpAny_pure ⟨_, rfl, by simp, h h1 e1 t1 kp x1 (fun k => ?_) (by omega)⟩
    rw [k1]
    have : eb = ea := by
      obtain ⟨o1, p1, q1, _, r1⟩ := x.ob
      obtain ⟨o2, p2, q2, _, r2⟩ := y.ob
      rw [q1] at q2
      cases q2
      rw [r1] at r2
      injection r2 with r3 _ _
      exact r3.symm
    rw [this]
    simp
  · refine wp_if_pos (by simp; exact hab) ?_
    refine wpAny_bind (m := Builtin.Frozenset.addrOf (.ref s.heap.objs.size)) (wpAny_pure ?_)
    refine wpAny_bind (wpAny_holding ?_)
    unfold Builtin.Frozenset.updateFrom
    have y1 : SE w h1 b eb tb := by
      obtain ⟨o, ep, q1, q2, q3⟩ := y.ob
      exact ⟨⟨o, ep, kp _ _ q1, q2, q3⟩, y.good, y.nd, y.few, y.fit, y.ris, y.led⟩
    refine wpAny_bind (one (s := { s with heap := h1 }) ?_ ?_)
    · obtain ⟨o2, q1, q2⟩ := y1.isSet
      exact ⟨o2, q1, q2⟩
    refine wp_if_pos rfl ?_
    refine wpAny_bind (m := Builtin.Frozenset.addrOf (.ref b)) (wpAny_pure ?_)
    unfold Builtin.Frozenset.merge
    obtain ⟨o2, ep2, q1, q2, q3⟩ := y1.ob
    refine wpAny_bind (m := setEpoch b) ?_
    unfold setEpoch
    refine wpAny_bind (wpAny_setState_of (s := { s with heap := h1 }) q1 q3 y1.fit (wpAny_pure ?_))
    have nb : b ≠ s.heap.objs.size := lt b ob hb
    refine merge (s := { s with heap := h1 }) x1 y1 nb z1 (by omega) (fun s1 Q' sb q => ?_) fun h2 e2 t2 sb2 x2 k2 l2 _ => ?_
    · unfold Builtin.Frozenset.unchanged
      refine wpAny_bind (m := setEpoch b) ?_
      unfold setEpoch
      refine wpAny_bind (wpAny_setState_of ((sb.2 b nb).trans q1) q3 y1.fit (wpAny_pure ?_))
      refine wp_if_neg (by simp) ?_
      exact wpAny_pure q
    · refine wpAny_pure ?_
      refine wpAny_pure ⟨_, rfl, by simp, h h2 e2 t2 (fun c o e => (sb2.2 c (lt c o e)).trans (kp c o e)) x2 (fun k => by rw [k2, k1]) (by omega)⟩
end
end PvSet
end
section
set_option Elab.async false
set_option linter.all false
set_option maxRecDepth 100000
set_option maxHeartbeats 3200000
namespace PvSet
open PySem PySem.Spec PyProof.Rows L2
section
variable {P : Program} {w : World} {A : Around} {E : Value → Shared → Prop} {s : Shared}
abbrev emptySet (w : World) : Obj := { cls := .type "set", dict := none, data := .set #[] 0 (.fresh 0 0 (!w.params.followText "set-order")) }
/-- the set made takes a dict's keys in -/
theorem fill {id : String} {S d : Addr} {kvs : List (Key × Value)} {Q : Unit → Shared → Prop} (hS : s.heap.get? S = some (emptySet w)) (hd : s.heap.DictOf (mixKind P w) d kvs) (hsys : (d == sysModules) = false) (ks : List Int) (hk : kvs.map (·.1) = ks.map Sum.inl) (few : ks.length ≤ 60) (ne : d ≠ S)
    (h : ∀ h' n, Heap.SameBut S s.heap h' → SetR w h' S (fun j => decide (j ∈ ks)) n → n ≤ ks.length → Q () { s with heap := h' }) : wpAny (model P w) A (Builtin.Frozenset.updateFrom id S (.ref d)) Q E s := by
  obtain ⟨o, es, ep, ho, hx, hdat, hkeys, hp, hnd⟩ := hd
  obtain ⟨oc, od, odt, osl⟩ := o
  have hc : oc = .type "dict" := hx.1
  have hdat : odt = .dict es ep := hdat
  subst hc hdat
  have f1 := F.sub_dict_set
  have f2 := F.sub_dict_frozenset
  unfold Builtin.Frozenset.updateFrom
  refine wpAny_bind (m := Builtin.Frozenset.isAnySet (.ref d)) ?_
  unfold Builtin.Frozenset.isAnySet
  refine wpAny_bind (wpAny_isInstance ⟨_, ho, rfl⟩ f1 ?_)
  refine wpAny_isInstance ⟨_, ho, rfl⟩ f2 ?_
  refine wp_if_neg (by simp) ?_
  try refine wpAny_bind (wpAny_pure ?_)
  refine wpAny_bind (wpAny_typeOf (T := "dict") ⟨_, ho, rfl⟩ ?_)
  refine wp_if_pos (by decide) ?_
  refine wpAny_bind (wpAny_rule ?_)
  refine wpAny_bind (m := Builtin.Frozenset.addrOf (.ref d)) (wpAny_pure ?_)
  refine wp_if_neg (by rw [hsys]; simp) ?_
  try refine wpAny_bind (wpAny_pure ?_)
  refine wpAny_bind (wpAny_dictEpoch ho rfl ?_)
  refine wpAny_bind (wpAny_dictEntries ho rfl ?_)
  have pk : ∀ (l : List DictEntry) (kvs : List (Key × Value)) (ks : List Int), Pairs (mixKind P w) l kvs → kvs.map (·.1) = ks.map Sum.inl → l.length = ks.length ∧ ∀ (i : Nat) (e : DictEntry), l[i]? = some e → ∃ k, ks[i]? = some k ∧ (mixKind P w).is (Sum.inl k) e.key = true := by
    intro l kvs ks p
    induction p generalizing ks with
    | nil =>
      intro h
      cases ks with
      | nil => exact ⟨rfl, fun i e h => by simp at h⟩
      | cons _ _ => cases h
    | @cons e kv l kvs h1 h2 _ ih =>
      intro h
      cases ks with
      | nil => cases h
      | cons k ks =>
        rw [List.map_cons, List.map_cons] at h
        injection h with e1 e2
        obtain ⟨a1, a2⟩ := ih ks e2
        refine ⟨by rw [List.length_cons, List.length_cons, a1], fun i e' hi => ?_⟩
        cases i with
        | zero =>
          have : e = e' := by simpa using hi
          subst this
          exact ⟨k, rfl, by rw [← e1]; exact h1⟩
        | succ i => exact a2 i e' (by simpa using hi)
  obtain ⟨hlen, hat⟩ := pk _ _ ks hp hk
  rw [Array.length_toList] at hlen
  have x0 : SE w s.heap S #[] (.fresh 0 0 (!w.params.followText "set-order")) := new_at hS
  refine wpAny_bind (room x0 (by simp; omega) fun h1 e1 t1 sb1 x1 p1 _ _ => ?_)
  have ho1 := (sb1.2 d ne).trans ho
  refine wpAny_bind (wpAny_dictEntries (s := { s with heap := h1 }) ho1 rfl ?_)
  refine wpAny_bind (wpAny_mono (TI.forIn_rng (s := { s with heap := h1 }) _ (fun rest _ s' => ∃ h' n, s' = { s with heap := h' } ∧ Heap.SameBut S s.heap h' ∧ rest = List.range' (es.size - rest.length) rest.length ∧ rest.length ≤ es.size ∧ SetR w h' S (fun j => decide (j ∈ ks.take (es.size - rest.length))) n ∧ n ≤ es.size - rest.length)
    (fun _ s' => ∃ h' n, s' = { s with heap := h' } ∧ Heap.SameBut S s.heap h' ∧ SetR w h' S (fun j => decide (j ∈ ks)) n ∧ n ≤ ks.length) ?_ ?_ PUnit.unit ?_) (fun _ s' q => ?_) fun _ _ z => z)
  · rintro i rest b s' ⟨h', n, rfl, sb, hr, hl, R, hn⟩
    rw [List.length_cons] at hr hl hn R
    have hi : i = es.size - (rest.length + 1) ∧ rest = List.range' (i + 1) rest.length := by
      rw [List.range'_succ] at hr
      injection hr with a1 a2
      exact ⟨a1, by rw [a1]; exact a2⟩
    have hlt : i < es.size := by omega
    have ho2 := (sb.2 d ne).trans ho
    refine wpAny_bind (wpAny_dictEntries (s := { s with heap := h' }) ho2 rfl ?_)
    rw [Array.getElem?_eq_getElem hlt]
    dsimp only
    obtain ⟨k, hk1, hk2⟩ := hat i es[i] (by rw [Array.getElem?_toList, Array.getElem?_eq_getElem hlt])
    obtain ⟨k', hk3, hk4⟩ := hkeys es[i] (Array.getElem_mem hlt)
    have ek : k' = Sum.inl k := (mixKind P w).inj _ _ _ hk3 hk2
    rw [ek] at hk4
    have hk4 : es[i].hash = (intKind P w).hash k := hk4
    obtain ⟨t, et⟩ : ∃ t, es[i].key = .int k t := by
      have h : Value.isInt k es[i].key = true := hk2
      cases q : es[i].key with
      | int j t =>
        rw [q] at h
        have : j = k := by simpa [Value.isInt] using h
        exact ⟨t, by rw [this]⟩
      | _ => rw [q] at h; simp [Value.isInt] at h
    rw [et, hk4]
    refine wpAny_bind (wpAny_holding (setR_add_hashed (P := P) (s := { s with heap := h' }) R (by show n + 1 < 4096; omega) fun h3 sb3 R3 => ?_))
    refine wpAny_bind (wpAny_dictEpoch (s := { s with heap := h3 }) (((sb.trans sb3).2 d ne).trans ho) rfl ?_)
    refine wp_if_neg (by simp) ?_
    refine wpAny_pure ⟨h3, _, rfl, sb.trans sb3, ?_, by omega, R3.congr fun j => ?_, ?_⟩
    · rw [hi.2, List.length_range', show es.size - rest.length = i + 1 by omega]
    · rw [show es.size - rest.length = i + 1 by omega, show es.size - (rest.length + 1) = i by omega, List.take_add_one, hk1]
      simp [Bool.or_comm]
    · split <;> omega
  · rintro b s' ⟨h', n, rfl, sb, hr, hl, R, hn⟩
    refine ⟨h', n, rfl, sb, R.congr fun k => ?_, by simpa [hlen] using hn⟩
    rw [List.length_nil, Nat.sub_zero, hlen, List.take_length]
  · have e0 : e1.toList = [] := by
      have := p1.length_eq
      exact List.eq_nil_of_length_eq_zero (by simpa using this)
    refine ⟨h1, 0, rfl, sb1, ?_, by rw [List.length_range']; exact Nat.le_refl _, ?_, by simp⟩
    · rw [List.length_range', Nat.sub_self]
    · have := x1.r (S := fun j => decide (j ∈ ks.take (es.size - (List.range' 0 es.size).length))) (fun k => by rw [e0, List.length_range', Nat.sub_self]; simp)
      rw [show e1.size = 0 by rw [← Array.length_toList, e0]; rfl] at this
      exact this
  · obtain ⟨h', n, rfl, sb, R, hn⟩ := q
    exact wpAny_pure (h h' n sb R hn)
/-- set(d) -/
theorem of_dict {d : Addr} {kvs : List (Key × Value)} {Q : Value → Shared → Prop} (hd : s.heap.DictOf (mixKind P w) d kvs) (hsys : (d == sysModules) = false) (ks : List Int) (hk : kvs.map (·.1) = ks.map Sum.inl) (few : ks.length ≤ 60)
    (h : ∀ h' n tk, (∀ b o, s.heap.get? b = some o → h'.get? b = some o) → SetR w h' s.heap.objs.size (fun j => decide (j ∈ ks)) n → n ≤ ks.length → Q (.ref s.heap.objs.size) { s with heap := h', toks := tk }) : wpAny (model P w) A (call (.type "set") [.ref d]) Q E s := by
  obtain ⟨c, tl, hmro⟩ := F.called_set.mro
  have made := F.called_set.made
  have subs := F.called_set.sub
  refine wpAny_call (codeAny_of_tree (show wpAny _ _ (callAny (.type "set") _) _ _ _ from wpAny_pure ⟨Code.quiet_builtin _ (by decide +kernel), codeAny_builtin F.entry_type_call ?_⟩))
  rw [Around.under_plain (weight_type_call_type "set" [.ref d] []) rfl]
  have nt := F.called_set.notType
  have cc := F.called_set.canCreate
  have tc := F.typeCall_set_1 (.ref d)
  repeat (any_goals (first | assumption | wp_step))
  refine codeAny_mono (code_set_led1 (.ref d) (E := E) (Q₁ := fun v s₁ => v = .ref s.heap.objs.size ∧ s₁ = { s with heap := s.heap.push (emptySet w) }) ⟨rfl, rfl⟩) fun r s₁ hr => ?_
  match r, hr with
  | .error _, hr => exact hr
  | .ok .next, hr => exact hr.elim
  | .ok .brk, hr => exact hr.elim
  | .ok .cont, hr => exact hr.elim
  | .ok (.ret v), hr =>
    obtain ⟨rfl, rfl⟩ := hr
    have at_ : (s.heap.push (emptySet w)).get? s.heap.objs.size = some (emptySet w) := Heap.get?_push_size _ rfl
    have isT : Shared.TypeIs { s with heap := s.heap.push (emptySet w) } (.ref s.heap.objs.size) "set" := ⟨_, at_, rfl⟩
    have il := F.called_set.init.lookup
    have ib := F.called_set.init.bind (.ref s.heap.objs.size)
    repeat (any_goals (first | assumption | wp_step))
    refine codeAny_mono (codeAny_call_builtin (R := wants (fun u s₂ => u = .none ∧ ∃ h' n tk, s₂ = { s with heap := h', toks := tk } ∧ SetR w h' s.heap.objs.size (fun j => decide (j ∈ ks)) n ∧ n ≤ ks.length ∧ ∀ b o, s.heap.get? b = some o → h'.get? b = some o) E)
      F.called_set.init.plain F.entry_set_init (check_set_init_1 isT ?_)) fun r₂ s₂ hr₂ => ?_
    · unfold Builtin.«set.__init__» noKeywords
      generalize hUF : Builtin.Frozenset.updateFrom = UF
      wp_walk
      subst hUF
      have hd1 : (s.heap.push (emptySet w)).DictOf (mixKind P w) d kvs := by
        obtain ⟨o, es, ep, q1, q2⟩ := hd
        exact ⟨o, es, ep, Heap.get?_push_of_some _ q1, q2⟩
      have ne : d ≠ s.heap.objs.size := by
        obtain ⟨o, es, ep, q1, q2⟩ := hd
        exact Nat.ne_of_lt (Heap.lt_size q1)
      refine fill (s := { s with heap := s.heap.push (emptySet w) }) at_ hd1 hsys ks hk few ne fun h' n sb R hn => ?_
      refine wpAny_pure ⟨rfl, h', n, _, rfl, R, hn, fun b o e => ?_⟩
      exact (sb.2 b (Nat.ne_of_lt (Heap.lt_size e))).trans (Heap.get?_push_of_some _ e)
    · match r₂, hr₂ with
      | .error _, hr₂ => exact hr₂
      | .ok .next, hr₂ => exact hr₂.elim
      | .ok .brk, hr₂ => exact hr₂.elim
      | .ok .cont, hr₂ => exact hr₂.elim
      | .ok (.ret u), hr₂ =>
        obtain ⟨rfl, h', n, tk, rfl, R, hn, kp⟩ := hr₂
        repeat (any_goals (first | assumption | wp_step))
        exact h h' n tk kp R hn
end
end PvSet
namespace Pv
open PySem PySem.Spec PyProof.Rows L2
section
variable {X : Cx}
/-- set(d), d a dict with int keys -/
theorem kSetD : CallR X (.type "set") (fun xs H Q => ∃ (a : Addr) (kvs : List (Key × V)) (ks : List Int), xs = [.ref a] ∧ Rd H a (.dK kvs) ∧ kvs.map (·.1) = ks.map Sum.inl ∧ ks.length ≤ 60 ∧ ∀ p n, n ≤ ks.length → H p = none → Q (.ref p) (upd H p (SetO X.w p (fun j => decide (j ∈ ks)) n))) := by
  intro pins s σ H xs us Q I r h
  obtain ⟨a, kvs, ks, rfl, hd, hk, few, k⟩ := h
  obtain ⟨u, rfl, ru⟩ := r.one
  cases ru
  obtain ⟨z, hsys, vs, rel, dd⟩ := dk_rd I.hok hd
  have hk2 : vs.map (·.1) = ks.map Sum.inl := by
    rw [← hk]
    clear hk dd hd
    induction rel with
    | nil => rfl
    | cons h t ih => rw [List.map_cons, List.map_cons, ih (by simp at z; omega), h.1]
  refine PvSet.of_dict dd hsys ks hk2 few fun h' n tk kp R hn => ?_
  have hf := I.hok.fresh (Nat.le_refl s.heap.objs.size)
  exact ⟨.ref s.heap.objs.size, _, I.laid (t' := tk) kp (Nat.le_refl _) (setO_new R), rfl, k _ n hn hf⟩
/-- the union of two sets of ints -/
theorem kSetOr : OpR X (binaryOp .BitOr) (fun x y H Q => ∃ (a b : Addr) (S T : Int → Bool) (n m : Nat), x = .ref a ∧ y = .ref b ∧ H a = some (SetO X.w a S n) ∧ H b = some (SetO X.w b T m) ∧ n + m ≤ 60 ∧ ∀ p c, c ≤ n + m → H p = none → Q (.ref p) (upd H p (SetO X.w p (fun j => S j || T j) c))) := by
  intro pins s σ H x y v u Q I rx ry h
  obtain ⟨a, b, S, T, n, m, rfl, rfl, ha, hb, few, k⟩ := h
  cases rx
  cases ry
  obtain ⟨ea, ta, xa, na, ka⟩ := PvSet.SE.of (setO_get I ha) (by omega)
  obtain ⟨eb, tb, xb, nb, kb⟩ := PvSet.SE.of (setO_get I hb) (by omega)
  refine PvSet.or_run xa xb (by omega) fun h' e t kp x' ke ne => ?_
  have hf := I.hok.fresh (Nat.le_refl s.heap.objs.size)
  refine ⟨.ref s.heap.objs.size, _, I.laid (t' := s.toks) kp (Nat.le_refl _) (setO_new (x'.r fun j => ?_)), rfl, k _ e.size (by omega) hf⟩
  rw [Bool.or_eq_true, ka, kb, ke]
end
end Pv
end
section
set_option Elab.async false
set_option linter.all false
set_option maxRecDepth 100000
set_option maxHeartbeats 2000000
namespace Pv
open PySem PySem.Spec PyProof.Rows L2
open Sem (wp)
set_option maxHeartbeats 4000000 in
theorem meets_enum1 {v : Value} {o : Obj} {H : Heap → Prop} (B : Begins v o H) :
    Meets (Builtin.«enumerate.__new__» ⟨[.type "enumerate", v], []⟩) (fun _ R s => H s.heap ∧
      R (.ok (.ret (.ref (s.heap.push o).objs.size))) { s with heap := (s.heap.push o).push { cls := .type "enumerate", data := .fields #[.none, .bool false, .ref s.heap.objs.size, rawInt 0, .none, .none] } }) :=
  .of_wp fun prog w A R s h => by
    obtain ⟨hp, g, d, tk, os⟩ := s; obtain ⟨h1, h⟩ := h
    have hsub := sub_enumerate
    have q1 : ∀ {A' : Around} {E : Value → Shared → Prop} {Q : Value → Shared → Prop}, Q (.ref hp.objs.size) ⟨hp.push o, g, d, tk, os⟩ → wpAny (model prog w) A' (pyIter v) Q E ⟨hp, g, d, tk, os⟩ :=
      fun q => B.iter prog w _ _ ⟨hp, g, d, tk, os⟩ _ h1 q
    wp_walk using q1
    refine wpAny_stack_any fun st => wpAny_pure ?_
    split
    · rename_i c _ _ _ _ _
      cases (c == Value.type "enumerate")
      · wp_walk using q1
        exact ⟨_, rfl, h⟩
      · wp_walk using q1
        exact ⟨_, rfl, h⟩
    · wp_walk using q1
      exact ⟨_, rfl, h⟩
theorem enum_begins1 {prog : Program} {w : World} {A : Around} {E : Value → Shared → Prop} {s : Shared} {v : Value} {o : Obj} {H : Heap → Prop} {Q : Value → Shared → Prop} (B : Begins v o H) (h1 : H s.heap)
    (h : ∀ h', IsEnum h' (s.heap.objs.size + 1) s.heap.objs.size 0 .none → h'.get? s.heap.objs.size = some o → h'.objs.size = s.heap.objs.size + 2 →
      (∀ b o, s.heap.get? b = some o → h'.get? b = some o) → Q (.ref (s.heap.objs.size + 1)) { s with heap := h' }) :
    wpAny (model prog w) A (call (.type "enumerate") [v]) Q E s := by
  refine callType_new F.called_enumerate (by decide) (F.typeCall_enumerate_1 _) (F.newCall_enumerate_1 _) (fun obj => F.args_object_init_2 obj _) F.entry_enumerate_new
    (meets_enum1 B) ⟨h1, ?_⟩
  have hz : (s.heap.push o).objs.size = s.heap.objs.size + 1 := Heap.size_push ..
  show _ ∧ _
  rw [hz]
  have he : IsEnum ((s.heap.push o).push { cls := .type "enumerate", data := .fields #[.none, .bool false, .ref s.heap.objs.size, rawInt 0, .none, .none] }) (s.heap.objs.size + 1) s.heap.objs.size 0 .none := by
    have := Heap.get?_push_size (s.heap.push o) (o := { cls := .type "enumerate", data := .fields #[.none, .bool false, .ref s.heap.objs.size, rawInt 0, .none, .none] }) rfl
    rw [hz] at this; exact this
  refine ⟨⟨_, he, rfl⟩, h _ he (Heap.get?_push_of_some _ (Heap.get?_push_size _ B.free)) (by rw [Heap.size_push, hz]) fun b o x => Heap.get?_push_of_some _ (Heap.get?_push_of_some _ x)⟩
/-- the tuple at a as it stands at each turn, each item in a new pair -/
def IteT (K : PySem.W.Frag) (a : Addr) : It :=
  ⟨fun i H => ∃ (xs : List V) (x : V), SqT K H a xs ∧ xs[i]? = some x, fun i H v H' => ∃ T x, v = .ref T ∧ H T = none ∧ H' = upd H T (.tup [.int (i : Nat), x]) ∧ ∀ xs, SqT K H a xs → xs[i]? = some x, fun i H => ∃ xs : List V, SqT K H a xs ∧ xs.length ≤ i⟩
theorem turn_enumT {P : Program} {w : World} {K : PySem.W.Frag} {elts : List Expr} {kk : Nat} {tpos : Pos} (a e it : Addr) :
    Turn P w K (.Tuple elts kk tpos) (IteT K a) [e, it] e (fun i h => (∃ old, IsEnum h e it ((i : Nat) : Int) old) ∧ h.IsTupleIter it a i ∧ e ≠ it ∧ a ≠ it ∧ a ≠ e) where
  mem := by simp
  obj := fun i h st b hb => by
    obtain ⟨⟨old, he⟩, ⟨o, ho, hc, hd⟩, _⟩ := st
    have e' : b = e ∨ b = it := by simpa using hb
    rcases e' with z | z
    · rw [z]; exact ⟨_, he, fun v q => nomatch q⟩
    · rw [z]; exact ⟨o, ho, fun v q => by rw [hd] at q; cases q⟩
  keep := fun i h h' st k => let ⟨⟨old, he⟩, hi, hne⟩ := st; ⟨⟨old, k e (by simp) _ he⟩, hi.at fun o q => k it (by simp) o q, hne⟩
  item := by
    intro X hP hw hK hc i pins s σ H E I hf st hg
    subst hP hw hK
    obtain ⟨⟨old, he⟩, hit, hne, hai, hae⟩ := st
    obtain ⟨xs, x, hq, hx⟩ := hg
    obtain ⟨its, rv, p, hz⟩ := I.tuple hq
    obtain ⟨u, hu, ru⟩ := rv.get hx
    have hel : e < s.heap.objs.size := Heap.lt_size he
    have hil : it < s.heap.objs.size := by obtain ⟨_, q, _⟩ := hit; exact Heap.lt_size q
    have hlt : i < its.toArray.size := by
      rw [List.size_toArray]
      exact (List.getElem?_eq_some_iff.mp hu).1
    refine wpAny_pyNext_enum_itemD (Draws.tuple (A := X.A.in1) (I.ok.hd hc) it a hai its.toArray) he ⟨hit, p⟩ hlt hne (by simp; exact ⟨hne, fun z => hae z.symm⟩) fun y h' tk hy ho hit' hT hsz hk => ?_
    obtain rfl : u = y := by
      have hy' : its.toArray[i]? = some y := hy
      simp at hy'
      rw [hu] at hy'
      exact Option.some.inj hy'
    refine ⟨_, rfl, wpAny_letOwnedTupleGo_enum (s := { s with heap := h', toks := tk + 1 }) ho fun h'' he' sb => ?_⟩
    have hT2 : h''.get? s.heap.objs.size = some { cls := .type "tuple", data := .seq #[.int i tk, u] } := (sb.2 _ (Nat.ne_of_gt hel)).trans hT
    have new : ObjOk X.prog X.w (upd H s.heap.objs.size (.tup [.int (i : Nat), x])) h'' s.heap.objs.size (.tup [.int (i : Nat), x]) :=
      ⟨by show 2 ≤ sizeLine; decide, [.int i tk, u], .cons ⟨_, rfl⟩ (.cons ru .nil), ⟨_, hT2, rfl, _, rfl⟩⟩
    have I1 : Inv X pins σ (upd H s.heap.objs.size (.tup [.int (i : Nat), x])) { s with heap := h'', toks := tk + 1 } :=
      I.turnedNew (ch := [e, it]) (fun b ob hb q => (sb.2 b (fun z => hb (by simp [z]))).trans (hk b ob (fun z => hb (by simp [z])) (fun z => hb (by simp [z])) q)) hf (Nat.le_refl _) new
    refine ⟨.ref s.heap.objs.size, _, I1, rfl, ⟨_, x, rfl, I.hok.fresh (Nat.le_refl _), rfl, fun ys hy => by rw [I.tuple_inj hy hq]; exact hx⟩, ⟨⟨u, ?_⟩, hit'.1.at fun o q => (sb.2 it (Ne.symm hne)).trans q, hne, hai, hae⟩, fun b hb => ?_⟩
    · have e1 : ((i + 1 : Nat) : Int) = (i : Int) + 1 := by omega
      rw [e1]; exact he'
    · have hb' : b < s.heap.objs.size := by
        have e' : b = e ∨ b = it := by simpa using hb
        rcases e' with z | z
        · rw [z]; exact hel
        · rw [z]; exact hil
      rw [upd_ne (Nat.ne_of_lt hb')]
      exact (hf b hb).1
  done := by
    intro X hP hw hK hc i pins s σ H E I hf st hg
    subst hP hw hK
    obtain ⟨⟨old, he⟩, hit, hne, hai, hae⟩ := st
    obtain ⟨xs, hq, hx⟩ := hg
    obtain ⟨its, rv, p, hz⟩ := I.tuple hq
    obtain ⟨f0, f1, f2, f3, f4, f5⟩ := hf it (by simp)
    have hl := rv.length
    have hT : s.TypeIs (.ref e) "enumerate" := ⟨_, he, rfl⟩
    unfold pyNext
    refine wpAny_bind (wpAny_attempt (wpAny_callSpecial?_slot (name := Str.ofString "__next__") hT F.slot_enumerate_next
      (wpAny_call_entry F.slot_enumerate_next hT F.entry_enumerate_next ?_ (F.args_enumerate_next_1 _))))
    show wpAny _ _ (field (.ref e) 2 >>= _) _ _ _
    refine wpAny_bind (wpAny_field he rfl (x := .ref it) rfl ?_)
    refine wpAny_bind (wpAny_nextOf_tuple_end (I.ok.hd hc) hit p (by simp; omega) fun h' x he' hx' => ?_)
    obtain ⟨o, ho, hcl⟩ := hx'
    refine wpAny_bind (wpAny_isInstance (T := "StopIteration") (b := true) ⟨o, ho, hcl⟩ isSubtype_stop ?_)
    exact wpAny_pure ⟨rfl, I.turned (t' := s.toks) (fun b o hb q => he' b o hb q) f0 f1 f3 f4 f5⟩
  self := fun A i s Q E st h => let ⟨⟨_, he⟩, _⟩ := st; wpAny_pyIter_enum he h
def iEnumT (K : PySem.W.Frag) (ta : TA) : TI := fun σ H R => ta σ H fun vs H1 => ∃ a xs, vs = [.ref a] ∧ SqT K H1 a xs ∧ R (IteT K a) H1
theorem pi_enumT {X : Cx} {e : Expr} {ta : TA} {p pos tpos : Pos} {elts : List Expr} {kk : Nat} (hg : Gl X "enumerate") (hm : X.mg "enumerate" = none) (ha : PA X [e] ta) (hs : starEach [e] X.env = [(false, eval e X.env)] := by rfl) :
    PI X (.Tuple elts kk tpos) (.Call (.Name "enumerate" p) [e] [] pos) (iEnumT X.K ta) := by
  refine ⟨fun pins s σ H R I h => ?_⟩
  refine Call_ (ld_blt I hg hm boot_enumerate (PyProof.Rows.callWith_type1 (thn (ha.run pos pins s σ H _ I h) fun us s1 ⟨vs, H1, I1, r1, q1⟩ => ?_) hs rfl))
  obtain ⟨a, xs, ex, hq, q⟩ := q1
  subst ex
  cases r1 with
  | cons r rr =>
    cases rr
    cases r
    obtain ⟨its, rv, p', hz⟩ := I1.tuple hq
    have hal : a < s1.heap.objs.size := by obtain ⟨_, q, _⟩ := p'; exact Heap.lt_size q
    refine enum_begins1 (begins_tuple a its.toArray) p' fun h' he hit hsz hk => wpAny_pyIter_enum he ?_
    have I2 : Inv X pins σ H1 { s1 with heap := h' } := I1.kept (t' := s1.toks) hk
    refine ⟨s1.heap.objs.size + 1, [s1.heap.objs.size + 1, s1.heap.objs.size], _, _, H1, rfl, I2, turn_enumT a (s1.heap.objs.size + 1) s1.heap.objs.size, ⟨⟨.none, he⟩, ⟨_, hit, rfl, rfl⟩, Nat.succ_ne_self _, Nat.ne_of_lt hal, Nat.ne_of_lt (Nat.lt_succ_of_lt hal)⟩, fun b hb => ?_, q⟩
    have e' : b = s1.heap.objs.size + 1 ∨ b = s1.heap.objs.size := by simpa using hb
    have hle : s1.heap.objs.size ≤ b := by
      rcases e' with z | z
      · rw [z]; exact Nat.le_add_right _ _
      · rw [z]; exact Nat.le_refl _
    exact I1.fpOk hle (I1.hok.fresh hle)
theorem kEnumT {X : Cx} {K : PySem.W.Frag} (h : X.K = K) {e : Expr} {ta : TA} {p pos tpos : Pos} {elts : List Expr} {kk : Nat} (hg : Gl X "enumerate") (hm : X.mg "enumerate" = none) (ha : PA X [e] ta) (hs : starEach [e] X.env = [(false, eval e X.env)] := by rfl) :
    PI X (.Tuple elts kk tpos) (.Call (.Name "enumerate" p) [e] [] pos) (iEnumT K ta) := by subst h; exact pi_enumT hg hm ha hs
end Pv
end
section
set_option Elab.async false
set_option linter.all false
set_option maxRecDepth 100000
set_option maxHeartbeats 2000000
namespace Pv
open PySem PySem.Spec PyProof.Rows L2
/-! ### rows of ints in order -/
def lexL : List Int → List Int → Bool
  | a :: l, b :: m => if a = b then lexL l m else decide (a < b)
  | _, _ => false
theorem lexL_cons (a b : Int) (l m : List Int) : lexL (a :: l) (b :: m) = true ↔ a < b ∨ (a = b ∧ lexL l m = true) := by
  show (if a = b then lexL l m else decide (a < b)) = true ↔ _
  by_cases h : a = b
  · rw [if_pos h]
    constructor
    · exact fun z => .inr ⟨h, z⟩
    · rintro (z | ⟨_, z⟩)
      · omega
      · exact z
  · rw [if_neg h, decide_eq_true_eq]
    constructor
    · exact .inl
    · rintro (z | ⟨z, _⟩)
      · exact z
      · exact absurd z h
theorem lexL_asym : ∀ l m : List Int, lexL l m = true → lexL m l = false
  | [], [], h => by cases h
  | [], _ :: _, h => by cases h
  | _ :: _, [], h => by cases h
  | a :: l, b :: m, h => by
    cases q : lexL (b :: m) (a :: l) with
    | false => rfl
    | true =>
      rcases (lexL_cons a b l m).mp h with h | ⟨e, h⟩
      · rcases (lexL_cons b a m l).mp q with z | ⟨z, _⟩ <;> omega
      · rcases (lexL_cons b a m l).mp q with z | ⟨_, z⟩
        · omega
        · rw [lexL_asym l m h] at z; cases z
theorem lexL_tot : ∀ l m : List Int, l.length = m.length → lexL l m = true ∨ l = m ∨ lexL m l = true
  | [], [], _ => .inr (.inl rfl)
  | [], _ :: _, h => by simp at h
  | _ :: _, [], h => by simp at h
  | a :: l, b :: m, h => by
    rcases Int.lt_trichotomy a b with q | q | q
    · exact .inl ((lexL_cons a b l m).mpr (.inl q))
    · rcases lexL_tot l m (by simpa using h) with z | z | z
      · exact .inl ((lexL_cons a b l m).mpr (.inr ⟨q, z⟩))
      · exact .inr (.inl (by rw [q, z]))
      · exact .inr (.inr ((lexL_cons b a m l).mpr (.inr ⟨q.symm, z⟩)))
    · exact .inr (.inr ((lexL_cons b a m l).mpr (.inl q)))
theorem lexL_trans : ∀ l m n : List Int, lexL l m = true → lexL m n = true → lexL l n = true
  | [], [], _, h, _ => by cases h
  | [], _ :: _, _, h, _ => by cases h
  | _ :: _, [], _, h, _ => by cases h
  | _ :: _, _ :: _, [], _, h => by cases h
  | a :: l, b :: m, c :: n, h, g => by
    rcases (lexL_cons a b l m).mp h with h | ⟨e, h⟩ <;> rcases (lexL_cons b c m n).mp g with g | ⟨f, g⟩
    · exact (lexL_cons a c l n).mpr (.inl (by omega))
    · exact (lexL_cons a c l n).mpr (.inl (by omega))
    · exact (lexL_cons a c l n).mpr (.inl (by omega))
    · exact (lexL_cons a c l n).mpr (.inr ⟨by omega, lexL_trans l m n h g⟩)
/-- rows of width d -/
theorem lexL_neg {d : Nat} {x y z : List Int} (hx : x.length = d) (hy : y.length = d) (hz : z.length = d) (h1 : lexL x y = false) (h2 : lexL y z = false) : lexL x z = false := by
  cases q : lexL x z with
  | false => rfl
  | true =>
    exfalso
    rcases lexL_tot x y (by omega) with e | e | e
    · rw [h1] at e; cases e
    · rw [e, h2] at q; cases q
    · have := lexL_trans y x z e q
      rw [h2] at this; cases this
/-- cut to width d: an order on all values -/
def fit (d : Nat) (l : List Int) : List Int := (List.range d).map fun i => l.getD i 0
theorem fit_len (d : Nat) (l : List Int) : (fit d l).length = d := by simp [fit]
theorem fit_id {d : Nat} {l : List Int} (h : l.length = d) : fit d l = l := by
  refine List.ext_getElem? fun i => ?_
  unfold fit
  rw [List.getElem?_map]
  by_cases hi : i < d
  · rw [List.getElem?_range hi, Option.map_some, List.getD_eq_getElem?_getD, List.getElem?_eq_getElem (by omega)]
    rfl
  · rw [List.getElem?_eq_none (by simp; omega), List.getElem?_eq_none (by omega)]
    rfl
theorem swo_rows {α : Type} (d : Nat) (k : α → List Int) : SrtO.Swo fun v u => lexL (fit d (k v)) (fit d (k u)) :=
  ⟨fun x y h => lexL_asym _ _ h, fun x y z h1 h2 => lexL_neg (fit_len d _) (fit_len d _) (fit_len d _) h2 h1⟩
section
variable {prog : Program} {w : World} {A : Around} {E : Value → Shared → Prop} {s : Shared}
theorem lex_rows {Q : Bool → Shared → Prop} {b : Bool} {xs ys : List Value} {ns ms : List Int} (i : Nat) (hx : IntsAre xs ns) (hy : IntsAre ys ms) (hl : ns.length = ms.length) (h : Q (lexL ns ms) s) : PySem.W.KatLex prog w A b false Q (xs.zip ys) i s := by
  induction hx generalizing ys ms i with
  | nil =>
    cases hy with
    | nil => exact PySem.W.kat_nil h
    | cons q u hy => simp at hl
  | @cons p t xs ns hx ih =>
    cases hy with
    | nil => simp at hl
    | @cons q u ys ms hy =>
      have hl' : ns.length = ms.length := by simpa using hl
      show PySem.W.KatLex prog w A b false Q ((Value.int p t, Value.int q u) :: xs.zip ys) i s
      refine PySem.W.kat_cons (wpAny_eqBool_int ?_)
      by_cases e : p = q
      · subst e
        rw [beq_self_eq_true]
        have d : lexL (p :: ns) (p :: ms) = lexL ns ms := if_pos rfl
        rw [d] at h
        exact PySem.W.kat_yes (ih (i + 1) hy hl' h)
      · rw [show (p == q) = false from beq_eq_false_iff_ne.mpr e]
        refine PySem.W.kat_no (TS.oneLt_ints _ ?_)
        have d : lexL (p :: ns) (q :: ms) = decide (p < q) := if_neg e
        rw [d] at h
        exact h
theorem firsts_rows {h : Heap} {d : Nat} {k : Value → List Int} (hd : 1 ≤ d) : ∀ vs : List Value, (∀ v ∈ vs, TS.TupInts h v (k v) ∧ (k v).length = d) → ∃ fs, PySem.W.KatTups h vs fs ∧ fs.length = vs.length ∧ ∀ f, f ∈ fs → ∃ n t, f = Value.int n t
  | [], _ => ⟨[], PySem.W.KatTups.nil, rfl, fun f hf => by simp at hf⟩
  | v :: vs, x => by
    obtain ⟨fs, kk, hl, hi⟩ := firsts_rows hd vs fun u hu => x u (List.mem_cons_of_mem _ hu)
    obtain ⟨⟨a, xs, rfl, ⟨o, ho, hc, n, hdt⟩, i⟩, hn⟩ := x v (List.mem_cons_self ..)
    obtain ⟨y, ys, e⟩ : ∃ y ys, xs.toList = y :: ys := by
      cases q : xs.toList with
      | nil =>
        rw [q] at i
        have l := i.length
        rw [List.length_nil, hn] at l
        omega
      | cons y ys => exact ⟨y, ys, rfl⟩
    obtain ⟨m, t, hy⟩ := i.all y (by rw [e]; exact List.mem_cons_self ..)
    refine ⟨y :: fs, PySem.W.KatTups.cons ho hc hdt ?_ kk, by simp [hl], ?_⟩
    · have z := congrArg (fun l : List Value => l[0]?) e
      simpa using z
    · intro f hf
      rcases List.mem_cons.mp hf with rfl | hf
      · exact ⟨m, t, hy⟩
      · exact hi f hf
theorem rows_sortable {a : Addr} {vs : List Value} {d : Nat} {k : Value → List Int} (hd : 1 ≤ d) (h0 : 0 < vs.length) (hp : ∀ v ∈ vs, TS.TupInts s.heap v (k v) ∧ (k v).length = d) (ha : ∀ o, s.heap.get? a = some o → o.cls ≠ .type "tuple") :
    SrtO.SortableO prog w A s a vs fun v u => lexL (fit d (k v)) (fit d (k u)) := by
  intro h' keep
  have hp' : ∀ v ∈ vs, TS.TupInts h' v (k v) ∧ (k v).length = d := fun v hm => ⟨(hp v hm).1.keeps fun b o e c => keep b o (fun z => by subst z; exact ha o e c) e, (hp v hm).2⟩
  obtain ⟨fs, h1, h2, h3⟩ := firsts_rows hd vs hp'
  refine ⟨tuples' true, fun Q E hq => ?_, fun p q hm hm' => ?_⟩
  · refine PySem.W.kat_kind (T := .type "int") h1 (by omega) (fun f hm => ?_) (by rfl) ?_
    · obtain ⟨x, t, rfl⟩ := h3 f hm
      exact PySem.W.Looks.now
    · have e : (Value.type "int" != Value.type "tuple") = true := by first | decide +kernel | rfl | decide
      rw [e]
      exact hq
  · obtain ⟨⟨a1, xs, e1, ⟨o, ho, hc, n, hdt⟩, i⟩, l1⟩ := hp' _ hm
    obtain ⟨⟨a2, ys, e2, ⟨o', ho', hc', n', hdt'⟩, i'⟩, l2⟩ := hp' _ hm'
    show wpAny (model prog w) A (keyLt' (tuples' true) p.1 q.1) (fun r s' => s' = { s with heap := h' } ∧ r = lexL (fit d (k p.1)) (fit d (k q.1))) (fun _ _ => False) _
    rw [fit_id l1, fit_id l2]
    generalize k p.1 = ns at i l1 ⊢
    generalize k q.1 = ms at i' l2 ⊢
    rw [e1, e2]
    refine PySem.W.kat_lt ho hdt ho' hdt' ?_
    have sz : decide (xs.size < ys.size) = false := by
      have l1 := i.length
      have l2 := i'.length
      rw [Array.length_toList] at l1 l2
      exact decide_eq_false (by omega)
    rw [sz]
    exact lex_rows 0 i i' (by omega) ⟨rfl, rfl⟩
end
/-! ### the rows that a list of tuples holds -/
def RowsN (H : Hp) (xs : List V) (rs : List (List Int)) : Prop := Paired (fun x (r : List Int) => ∃ t, x = V.ref t ∧ H t = some (.tup (r.map V.int))) xs rs
def intV : V → Int
  | .int i => i
  | _ => 0
def rowV (H : Hp) : V → List Int
  | .ref t => match H t with
    | some (.tup vs) => vs.map intV
    | _ => []
  | _ => []
theorem rowV_at {H : Hp} {t : Addr} {r : List Int} (h : H t = some (.tup (r.map V.int))) : rowV H (.ref t) = r := by
  have e : rowV H (.ref t) = match H t with
    | some (.tup vs) => vs.map intV
    | _ => [] := rfl
  rw [e, h]
  show (r.map V.int).map intV = r
  rw [List.map_map]
  exact (List.map_congr_left fun x _ => rfl).trans (List.map_id r)
theorem RowsN.map {H : Hp} : ∀ {xs : List V} {rs : List (List Int)}, RowsN H xs rs → rs = xs.map (rowV H) ∧ ∀ x ∈ xs, ∃ t, x = V.ref t ∧ H t = some (.tup ((rowV H x).map V.int))
  | [], _, .nil => ⟨rfl, fun x h => by cases h⟩
  | x :: xs, r :: rs, .cons h t => by
    obtain ⟨h1, h2⟩ := RowsN.map t
    obtain ⟨t, rfl, ht⟩ := h
    refine ⟨by rw [List.map_cons, rowV_at ht, ← h1], fun y hy => ?_⟩
    rcases List.mem_cons.mp hy with e | hy
    · subst e
      exact ⟨t, rfl, by rw [rowV_at ht]; exact ht⟩
    · exact h2 y hy
theorem RowsN.of_map {H : Hp} : ∀ {xs : List V}, (∀ x ∈ xs, ∃ t, x = V.ref t ∧ H t = some (.tup ((rowV H x).map V.int))) → RowsN H xs (xs.map (rowV H))
  | [], _ => .nil
  | x :: xs, h => .cons (h x (by simp)) (RowsN.of_map fun y hy => h y (List.mem_cons_of_mem _ hy))
theorem RowsN.same {H H' : Hp} (e : ∀ b o, H b = some o → isTup o = true → H' b = some o) : ∀ {xs : List V} {rs : List (List Int)}, RowsN H xs rs → RowsN H' xs rs
  | [], _, .nil => .nil
  | _ :: _, _ :: _, .cons ⟨t, h1, h2⟩ r => .cons ⟨t, h1, e _ _ h2 rfl⟩ (RowsN.same e r)
theorem RowsN.rows {K : PySem.W.Frag} {H : Hp} : ∀ {xs : List V} {rs : List (List Int)}, RowsN H xs rs → Rows K H xs rs
  | [], _, .nil => .nil
  | _ :: _, _ :: _, .cons ⟨t, h1, h2⟩ r => by
    subst h1
    exact .cons (.tup (SqT.of h2) (dp_ints' _)) (RowsN.rows r)
theorem RowsN.snoc {H : Hp} {xs : List V} {rs : List (List Int)} {t : Addr} {r : List Int} (h : RowsN H xs rs) (ht : H t = some (.tup (r.map V.int))) : RowsN H (xs ++ [.ref t]) (rs ++ [r]) := by
  induction h with
  | nil => exact .cons ⟨t, rfl, ht⟩ .nil
  | cons a b ih => exact .cons a ih
abbrev LexSorted (rs : List (List Int)) : Prop := rs.Pairwise fun x y => lexL y x = false
/-- sorted(xs), xs a list of tuples of d ints -/
def rSrtRows (K : PySem.W.Frag) : List V → Hp → VK → Prop := fun vs H Q => ∃ (a : Addr) (xs : List V) (rs : List (List Int)) (d : Nat), vs = [V.ref a] ∧ SqL K H a xs ∧ RowsN H xs rs ∧ 1 ≤ d ∧ (∀ r ∈ rs, r.length = d) ∧
  ∀ ys rs' p, RowsN H ys rs' → rs'.Perm rs → LexSorted rs' → H p = none → Q (.ref p) (upd H p (.lst ys))
theorem tupInts_of {X : Cx} {pins : List (Addr × Obj)} {σ : L2.St} {H : Hp} {s : Shared} (I : L2.Inv X pins σ H s) {t : Addr} {r : List Int} (h : H t = some (.tup (r.map V.int))) : TS.TupInts s.heap (.ref t) r := by
  obtain ⟨_, its, rv, o, ho, hc, n, hd⟩ := (show ObjOk X.prog X.w H s.heap t (.tup (r.map V.int)) from I.hok t _ h)
  exact ⟨t, its.toArray, rfl, ⟨o, ho, hc, n, hd⟩, rv.ints⟩
theorem cr_srtRows {X : Cx} : CallR X (.builtin "sorted") (rSrtRows X.K) := by
  intro pins s σ H vs us Q I r h
  obtain ⟨a, xs, rs, d, rfl, hs, hR, hd, hw, q⟩ := h
  obtain ⟨em, hx⟩ := RowsN.map hR
  obtain ⟨its, rv, hl, hz⟩ := I.list hs
  obtain ⟨u, rfl, ru⟩ := vals1 r
  obtain rfl : u = Value.ref a := ru
  obtain ⟨e1, e2⟩ := refs_back rv fun x m => by
    obtain ⟨t, e, _⟩ := hx x m
    exact ⟨t, e⟩
  have hk : ∀ x ∈ xs, (rowV H x).length = d := fun x m => hw _ (by rw [em]; exact List.mem_map_of_mem m)
  have hp : ∀ v ∈ its, TS.TupInts s.heap v (rowV H (backV v)) ∧ (rowV H (backV v)).length = d := fun v hv => by
    obtain ⟨t, rfl⟩ := e2 v hv
    have hm : V.ref t ∈ xs := by rw [e1]; exact List.mem_map.mpr ⟨_, hv, rfl⟩
    obtain ⟨t', e, ht⟩ := hx _ hm
    cases e
    exact ⟨tupInts_of I ht, hk _ hm⟩
  refine SrtO.sorted_ord (swo_rows d fun v => rowV H (backV v)) hl.isList (by rw [← rv.length]; exact hz) (fun h2 h₁ a' ha kk => ?_) fun out h1 h2 => ?_
  · refine rows_sortable (s := { s with heap := h₁ }) hd (by omega) (fun v hm => ⟨(hp v hm).1.keeps fun b o e _ => (kk b o e).2, (hp v hm).2⟩) fun o e => ?_
    have e' : some o = some (seqObj "list" its.toArray 0) := e.symm.trans ha
    cases e'
    intro c
    exact absurd (Value.type.inj c) (by decide)
  · have h3 : ∀ u ∈ out, ∃ a, u = Value.ref a := fun u hu => e2 u (h2.perm.mem_iff.mp hu)
    obtain ⟨n, hn⟩ := PyProof.Rows.sortedAll_at s.heap its out.toArray
    have hperm : (out.map backV).Perm xs := by rw [e1]; exact h2.perm.map _
    have hx2 : ∀ x ∈ out.map backV, ∃ t, x = V.ref t ∧ H t = some (.tup ((rowV H x).map V.int)) := fun x hx' => hx x (hperm.mem_iff.mp hx')
    have hlen : (out.map backV).length = xs.length := hperm.length_eq
    refine ⟨.ref (s.heap.objs.size + 1), upd H (s.heap.objs.size + 1) (.lst (out.map backV)), I.laid (t' := s.toks) (fun b o e => PyProof.Rows.sortedAll_old e) (Nat.le_succ _) ⟨by rw [hlen]; exact hz, out, n, vals_back h3, hn⟩, rfl,
      q _ ((out.map backV).map (rowV H)) _ (RowsN.of_map hx2) (by rw [em]; exact hperm.map _) ?_ (I.hok.fresh (Nat.le_succ _))⟩
    rw [LexSorted, List.map_map, List.pairwise_map]
    refine List.Pairwise.imp_of_mem (fun {x y} hx hy h => ?_) h1
    have hxl := (hp x (h2.perm.mem_iff.mp hx)).2
    have hyl := (hp y (h2.perm.mem_iff.mp hy)).2
    have h : lexL (fit d (rowV H (backV y))) (fit d (rowV H (backV x))) = false := h
    rw [fit_id hxl, fit_id hyl] at h
    exact h
theorem kSrt4 {X : Cx} {K : PySem.W.Frag} (h : X.K = K) : CallR X (.builtin "sorted") (rSrtRows K) := by subst h; exact cr_srtRows
end Pv
end
section
set_option Elab.async false
set_option linter.all false
set_option maxRecDepth 100000
set_option maxHeartbeats 2000000
namespace Pv
open PySem PySem.Spec PyProof.Rows L2
/-! ### sorted(d, reverse=True) -/
section
variable {X : Cx}
theorem cr_sortedDR (hcalm : X.calm = true) : CallRK X (.builtin "sorted") [Str.ofString "reverse"] (fun xs zs H Q => ∃ (a : Addr) (kvs : List (Key × V)) (ks : List Int), xs = [.ref a] ∧ zs = [.bl true] ∧ Rd H a (.dK kvs) ∧ kvs.map (·.1) = ks.map Sum.inl ∧
    ∀ (ys : List Int) (p : Addr), ys.Perm ks → ys.Pairwise (· ≥ ·) → H p = none → Q (.ref p) (upd H p (.lst (ys.map V.int)))) := by
  intro pins s σ H xs zs us ws Q I r rz q
  obtain ⟨a, kvs, ks, rfl, rfl, hd, hks, q⟩ := q
  obtain rfl := Vals.ref1 r
  obtain ⟨w1, rfl, e1⟩ := vals1 rz
  obtain rfl : w1 = Value.bool true := e1
  obtain ⟨z, lo, vs, rel, dd⟩ := dk_rd I.hok hd
  obtain ⟨ep, hat⟩ := dd.dictAt
  have hkeys : vs.map (·.1) = ks.map Sum.inl := rel.keys.symm.trans hks
  have hl : vs.length = ks.length := by
    have e := congrArg List.length hkeys
    rw [List.length_map, List.length_map] at e
    exact e
  have h16 : vs.length ≤ sizeLine := by rw [← rel.length]; exact z
  refine call_function_entry_kw PyProof.Rows.kind_sorted PyProof.Rows.plain_sorted PyProof.Rows.entry_sorted (PyProof.Rows.args_sorted_rev _ _) ?_
  unfold Builtin.«sorted»
  refine wpAny_bind (m := checkCount "sorted" 1 1 _) (wpAny_pure ?_)
  refine wpAny_bind (PySem.W.kdu_collect (A := X.A.in1) (PySem.W.kdl_dict (knd := mixKind X.prog X.w) (kvs := vs) (ep := ep) lo) (I.ok.hd hcalm) hat h16 fun h' tk acc hk hacc => ?_)
  have hal : acc.toList.length = ks.length := by rw [Array.length_toList, hacc.1, hl]
  have hS : IntsAre acc.toList ks := ints_each hal fun j v e => by
    obtain ⟨k, x, e1, e2⟩ := hacc.2 j v (by rw [← Array.getElem?_toList]; exact e)
    have e3 : (vs.map (·.1))[j]? = some k := by rw [List.getElem?_map, e1]; rfl
    rw [hkeys, List.getElem?_map] at e3
    cases e4 : ks[j]? with
    | none => rw [e4] at e3; cases e3
    | some y =>
      rw [e4] at e3
      have e5 : Sum.inl y = k := Option.some.inj e3
      subst e5
      rcases keyIs_shape (show keyIs (Sum.inl y) v = true from e2) with ⟨i, t, ek, ev⟩ | ⟨z, t, ek, ev⟩
      · cases ek
        exact ⟨y, t, rfl, ev⟩
      · cases ek
  have I1 : Inv X pins σ H { s with heap := h', toks := tk } := I.kept hk
  have hz2 : acc.toList.length ≤ sizeLine := by rw [hal, ← hl]; exact h16
  refine wpAny_bind (wpAny_newList ?_ hz2)
  have hoL : (h'.push (seqObj "list" acc.toList.toArray 0)).get? h'.objs.size = some (seqObj "list" acc.toList.toArray 0) := Heap.get?_push_size _ rfl
  show wpAny _ _ _ _ _ { s with heap := h'.push (seqObj "list" acc.toList.toArray 0), toks := tk }
  refine wpAny_bind (wpAny_holding (wpAny_call_entry_kw PyProof.Rows.slot_list_sort ⟨_, hoL, rfl⟩ PyProof.Rows.entry_list_sort
    (SrtR.list_sort_ordR (s := { s with heap := h'.push (seqObj "list" acc.toList.toArray 0), toks := tk }) SrtO.swo_int hoL hz2 (fun h2 => SrtO.ints_sortable hS h2) fun out o1 o2 => ⟨_, rfl, ?_⟩) (PyProof.Rows.args_list_sort_rev _ _)))
  obtain ⟨ys, g1, g2, g3⟩ := SrtR.ints_outR hS o1 o2
  obtain ⟨e', he'⟩ := PyProof.Rows.sortedHeap_at (vs := acc.toList) (out := if true = true then out.toArray.reverse else out.toArray) hoL
  have hlen : (ys.map V.int).length ≤ sizeLine := by
    rw [List.length_map, g2.length_eq, ← hl]
    exact h16
  refine wpAny_pure ⟨_, rfl, .ref h'.objs.size, upd H h'.objs.size (.lst (ys.map V.int)), I1.laid (t' := tk) (fun b u e => ?_) (Nat.le_refl _)
    (show ObjOk X.prog X.w _ _ _ (.lst (ys.map V.int)) from ⟨hlen, _, e', vals_of_ints g1, by rw [Array.toArray_toList]; exact he'⟩), rfl, q ys _ g2 g3 (I1.hok.fresh (Nat.le_refl _))⟩
  have hb : b < h'.objs.size := Heap.lt_size e
  rw [PyProof.Rows.sortedHeap_old (Nat.ne_of_lt hb) (by rw [size_push']; exact Nat.lt_succ_of_lt hb)]
  exact Heap.get?_push_of_some _ e
/-! ### d.values(), list(d.values()) -/
def valsO (p d : Addr) : HO := .ext fun h => h.IsValuesView p d
theorem valsO_ok {P : Program} {w : World} {H : Hp} {h : Heap} {p d : Addr} (e : h.get? p = some { cls := .type "dict_values", data := .fields #[.ref d] }) : ObjOk P w H h p (valsO p d) :=
  ⟨⟨_, e, rfl, rfl⟩, ⟨_, e⟩, fun h1 h2 x k => let ⟨o, ho, r⟩ := x; ⟨o, k o ho, r⟩⟩
theorem mt_vals : MtR X "dict.values" (fun x xs H Q => ∃ (a : Addr) (kvs : List (Key × V)), x = .ref a ∧ xs = [] ∧ H a = some (.dK kvs) ∧ ∀ p, H p = none → Q (.ref p) (upd H p (valsO p a))) := by
  intro pins s σ H x xs v us Q I rx rxs h
  obtain ⟨a, kvs, rfl, rfl, ha, q⟩ := h
  cases rx
  cases rxs
  obtain ⟨z, lo, vs, rel, dd⟩ := dk_of I.hok ha
  have hf : H s.heap.objs.size = none := I.hok.fresh (Nat.le_refl _)
  exact call_meetsIn PySem.F.slot_dict_values dd.typeIs PySem.F.entry_dict_values (PySem.F.args_dict_values_1 _) (meets_dict_values (mixKind X.prog X.w) a lo)
    ⟨⟨vs, dd⟩, .ref s.heap.objs.size, upd H s.heap.objs.size (valsO s.heap.objs.size a), I.laid (t' := s.toks) (fun b u e => Heap.get?_push_of_some _ e) (Nat.le_refl _) (valsO_ok (Heap.get?_push_size _ rfl)), rfl, q _ hf⟩
theorem vals_of_at : ∀ {kvs : List (Key × V)} {vs : List (Key × Value)} {us : List Value}, KV kvs vs → us.length = vs.length → (∀ (j : Nat) (v : Value), us[j]? = some v → ∃ k, vs[j]? = some (k, v)) → Vals (kvs.map (·.2)) us
  | _, _, [], .nil, _, _ => .nil
  | _, _, _ :: _, .nil, hl, _ => by simp at hl
  | _, _, [], .cons _ _, hl, _ => by simp at hl
  | _, _, u :: us, .cons (a := p) (b := q) h t, hl, hv => by
    obtain ⟨k, e⟩ := hv 0 u rfl
    have e : q = (k, u) := by simpa using e
    refine .cons ?_ (vals_of_at t (by simpa using hl) fun j v e => ?_)
    · have := h.2
      rw [e] at this
      exact this
    · have := hv (j + 1) v (by simpa using e)
      simpa using this
theorem cr_listV (hcalm : X.calm = true) : CallR X (.type "list") (fun xs H Q => ∃ (p a : Addr) (kvs : List (Key × V)), xs = [.ref p] ∧ H p = some (valsO p a) ∧ H a = some (.dK kvs) ∧ ∀ l, H l = none → Q (.ref l) (upd H l (.lst (kvs.map (·.2))))) := by
  intro pins s σ H xs us Q I r q
  obtain ⟨p, a, kvs, rfl, hp, ha, q⟩ := q
  obtain rfl := Vals.ref1 r
  obtain ⟨z, lo, vs, rel, dd⟩ := dk_of I.hok ha
  obtain ⟨ep, hat⟩ := dd.dictAt
  have view : s.heap.IsValuesView p a := (show ObjOk X.prog X.w H s.heap p (valsO p a) from I.hok p _ hp).1
  refine PySem.W.kdl_call (PySem.W.kdl_values (knd := mixKind X.prog X.w) (kvs := vs) (ep := ep)) (I.ok.hd hcalm) ⟨view, hat⟩ (by rw [← rel.length]; exact z) fun h' tk acc c' hk hD hacc => ?_
  have hv : Vals (kvs.map (·.2)) acc.toList := vals_of_at rel (by rw [Array.length_toList]; exact hacc.1) fun j v e => hacc.2 j v (by rw [← Array.getElem?_toList]; exact e)
  refine ⟨.ref s.heap.objs.size, upd H s.heap.objs.size (.lst (kvs.map (·.2))), I.laid (t' := tk) hk (Nat.le_refl _)
    (show ObjOk X.prog X.w _ _ _ (.lst (kvs.map (·.2))) from ⟨by rw [List.length_map]; exact z, acc.toList, c', hv, by rw [Array.toArray_toList]; exact hD⟩), rfl, q _ (I.hok.fresh (Nat.le_refl _))⟩
/-! ### d.items(), sorted(d.items()): ints to ints -/
theorem mt_itemsK : MtR X "dict.items" (fun x xs H Q => ∃ (a : Addr) (kvs : List (Key × V)), x = .ref a ∧ xs = [] ∧ H a = some (.dK kvs) ∧ ∀ p, H p = none → Q (.ref p) (upd H p (L2.DX.itemsO p a))) := by
  intro pins s σ H x xs v us Q I rx rxs h
  obtain ⟨a, kvs, rfl, rfl, ha, q⟩ := h
  cases rx
  cases rxs
  obtain ⟨z, lo, vs, rel, dd⟩ := dk_of I.hok ha
  have hf : H s.heap.objs.size = none := I.hok.fresh (Nat.le_refl _)
  exact call_meetsIn PySem.F.slot_dict_items dd.typeIs PySem.F.entry_dict_items (PySem.F.args_dict_items_1 _) (meets_dict_items (mixKind X.prog X.w) a lo)
    ⟨⟨vs, dd⟩, .ref s.heap.objs.size, upd H s.heap.objs.size (L2.DX.itemsO s.heap.objs.size a), I.laid (t' := s.toks) (fun b u e => Heap.get?_push_of_some _ e) (Nat.le_refl _) (L2.DX.itemsO_ok (Heap.get?_push_size _ rfl)), rfl, q _ hf⟩
abbrev entI (e : Int × Int) : Key × V := (Sum.inl e.1, V.int e.2)
theorem cr_sortItems (hcalm : X.calm = true) : CallR X (.builtin "sorted") (fun vs H Q => ∃ (p a : Addr) (l : List (Int × Int)), vs = [.ref p] ∧ H p = some (L2.DX.itemsO p a) ∧ H a = some (.dK (l.map entI)) ∧
    ∀ H' q xs rs, Same H H' → H q = none → H' q = some (.lst xs) → RowsN H' xs rs → rs.Perm (l.map fun e => [e.1, e.2]) → LexSorted rs → Q (.ref q) H') := by
  intro pins s σ H xs us Q I r h
  obtain ⟨p, a, l, rfl, hp, ha, q⟩ := h
  obtain rfl := Vals.ref1 r
  have view : s.heap.IsItemsView p a := (show ObjOk X.prog X.w H s.heap p (L2.DX.itemsO p a) from I.hok p _ hp).1
  obtain ⟨z, lo, vs, rel, dd⟩ := dk_of I.hok ha
  obtain ⟨ep, hat⟩ := dd.dictAt
  have hz : vs.length ≤ sizeLine := by rw [← rel.length]; exact z
  have l1 : l.length = vs.length := by
    have := rel.length
    rw [List.length_map] at this
    exact this
  refine Calls.call_function_entry PyProof.Rows.kind_sorted PyProof.Rows.plain_sorted PyProof.Rows.entry_sorted (PyProof.Rows.args_sorted1 _) ?_
  unfold Builtin.«sorted»
  refine wpAny_bind (m := checkCount "sorted" 1 1 _) (wpAny_pure ?_)
  refine wpAny_bind (PySem.W.kdx_collect (A := X.A.in1) (knd := mixKind X.prog X.w) (kvs := vs) (ep := ep) (I.ok.hd hcalm) view hat hz fun h' tk as hk hl hG => ?_)
  have lak : as.length = l.length := by omega
  have nd : as.Nodup := List.Pairwise.imp (fun h => Nat.ne_of_lt h) hG.rise
  have I1 : Inv X pins σ H { s with heap := h', toks := tk } := I.kept hk
  -- the pairs that were made
  have pr : ∀ (j : Nat) (b : Addr), as[j]? = some b → ∃ (e : Int × Int) (t u : Tok), l[j]? = some e ∧ h'.get? b = some { cls := .type "tuple", data := .seq #[Value.int e.1 t, Value.int e.2 u] } := by
    intro j b hj
    obtain ⟨key, k, x, e1, e2, e3⟩ := hG.pairs j b hj
    obtain ⟨y, f1, f2⟩ := KV.at' rel e1
    rw [List.getElem?_map] at f1
    cases hlj : l[j]? with
    | none => rw [hlj] at f1; cases f1
    | some e =>
      rw [hlj] at f1
      have f1 : entI e = (k, y) := Option.some.inj f1
      have fk : Sum.inl e.1 = k := congrArg Prod.fst f1
      have fy : V.int e.2 = y := congrArg Prod.snd f1
      subst fk fy
      obtain ⟨u, rfl⟩ := f2
      rcases keyIs_shape (show keyIs (Sum.inl e.1) key = true from e2) with ⟨i, t, ek, ev⟩ | ⟨z, t, ek, ev⟩
      · cases ek
        rw [ev] at e3
        exact ⟨e, t, u, rfl, e3⟩
      · cases ek
  -- tuples tracked
  obtain ⟨H2, I2, g, qt⟩ := L2.DX.takeT (P := fun b vs => ∃ (j : Nat) (e : Int × Int), as[j]? = some b ∧ l[j]? = some e ∧ vs = [V.int e.1, V.int e.2]) I as _ I1 nd fun b hb => by
    obtain ⟨j, hj⟩ := List.mem_iff_getElem?.mp hb
    obtain ⟨e, t, u, he, hg⟩ := pr j b hj
    have hbl : s.heap.objs.size ≤ b := Nat.le_of_lt (hG.above b hb)
    exact ⟨hbl, I.hok.fresh hbl, [V.int e.1, V.int e.2], ⟨j, e, hj, he, rfl⟩, fun H3 => ⟨(by rw [sizeLine_eq]; show 2 ≤ 16777216; omega), [Value.int e.1 t, Value.int e.2 u], .cons ⟨_, rfl⟩ (.cons ⟨_, rfl⟩ .nil), ⟨_, hg, rfl, 0, rfl⟩⟩⟩
  have at_ : ∀ (j : Nat) (b : Addr), as[j]? = some b → ∃ e, l[j]? = some e ∧ H2 b = some (.tup ([e.1, e.2].map V.int)) := by
    intro j b hj
    obtain ⟨vs', ⟨i, e, i1, i2, ev⟩, hH⟩ := qt b (List.mem_of_getElem? hj)
    have eij : i = j := (List.getElem?_inj (List.getElem?_eq_some_iff.mp i1).1 nd).mp (i1.trans hj.symm)
    subst eij
    rw [ev] at hH
    exact ⟨e, i2, hH⟩
  have hR : RowsN H2 (as.map V.ref) (l.map fun e => [e.1, e.2]) := by
    have gen : ∀ (as : List Addr) (l : List (Int × Int)), as.length = l.length → (∀ (j : Nat) (b : Addr), as[j]? = some b → ∃ e, l[j]? = some e ∧ H2 b = some (.tup ([e.1, e.2].map V.int))) → RowsN H2 (as.map V.ref) (l.map fun e => [e.1, e.2]) := by
      intro as
      induction as with
      | nil =>
        intro l hl _
        cases l with
        | nil => exact .nil
        | cons _ _ => simp at hl
      | cons b as ih =>
        intro l hl h
        cases l with
        | nil => simp at hl
        | cons e l =>
          obtain ⟨e', he, hH⟩ := h 0 b rfl
          obtain rfl : e = e' := by simpa using he
          exact .cons ⟨b, rfl, hH⟩ (ih l (by simpa using hl) fun j c hj => by simpa using h (j + 1) c (by simpa using hj))
    exact gen as l lak at_
  obtain ⟨em, hx⟩ := RowsN.map hR
  have hw : ∀ x ∈ as.map V.ref, (rowV H2 x).length = 2 := fun x m => by
    have : rowV H2 x ∈ l.map fun e => [e.1, e.2] := by rw [em]; exact List.mem_map_of_mem m
    obtain ⟨e, _, he⟩ := List.mem_map.mp this
    rw [← he]; rfl
  have hz2 : (as.map Value.ref).length ≤ sizeLine := by rw [List.length_map, hl]; exact hz
  have hpI : ∀ v ∈ as.map Value.ref, TS.TupInts h' v (rowV H2 (backV v)) ∧ (rowV H2 (backV v)).length = 2 := fun v hv => by
    obtain ⟨b, hb, rfl⟩ := List.mem_map.mp hv
    have hm : V.ref b ∈ as.map V.ref := List.mem_map_of_mem hb
    obtain ⟨t', e, ht⟩ := hx _ hm
    cases e
    exact ⟨tupInts_of I2 ht, hw _ hm⟩
  refine wpAny_bind (wpAny_newList ?_ hz2)
  have hoL : (h'.push (seqObj "list" (as.map Value.ref).toArray 0)).get? h'.objs.size = some (seqObj "list" (as.map Value.ref).toArray 0) := Heap.get?_push_size _ rfl
  show wpAny _ _ _ _ _ { s with heap := h'.push (seqObj "list" (as.map Value.ref).toArray 0), toks := tk }
  refine wpAny_bind (wpAny_holding (wpAny_call_entry PyProof.Rows.slot_list_sort ⟨_, hoL, rfl⟩ PyProof.Rows.entry_list_sort
    (SrtO.list_sort_ord (s := { s with heap := h'.push (seqObj "list" (as.map Value.ref).toArray 0), toks := tk }) (swo_rows 2 fun v => rowV H2 (backV v)) hoL hz2 (fun h2 => rows_sortable (by decide) (by omega) (fun v hv => ⟨(hpI v hv).1.keeps fun b o e _ => Heap.get?_push_of_some _ e, (hpI v hv).2⟩) fun o e => ?_) fun out o1 o2 => ⟨_, rfl, ?_⟩) (PyProof.Rows.args_list_sort _)))
  · have e' : some o = some (seqObj "list" (as.map Value.ref).toArray 0) := e.symm.trans hoL
    cases e'
    intro c
    exact absurd (Value.type.inj c) (by decide)
  · obtain ⟨e', he'⟩ := PyProof.Rows.sortedHeap_at (vs := as.map Value.ref) (out := out.toArray) hoL
    have h3 : ∀ u ∈ out, ∃ a, u = Value.ref a := fun u hu => by
      obtain ⟨b, _, e⟩ := List.mem_map.mp (o2.perm.mem_iff.mp hu)
      exact ⟨b, e.symm⟩
    have hperm : (out.map backV).Perm (as.map V.ref) := by
      have := o2.perm.map backV
      rw [List.map_map] at this
      exact this
    have hx2 : ∀ x ∈ out.map backV, ∃ t, x = V.ref t ∧ H2 t = some (.tup ((rowV H2 x).map V.int)) := fun x hx' => hx x (hperm.mem_iff.mp hx')
    have hlen : (out.map backV).length ≤ sizeLine := by
      rw [hperm.length_eq, List.length_map, hl]
      exact hz
    have nl : H2 h'.objs.size = none := I2.hok.fresh (Nat.le_refl _)
    have nl0 : H h'.objs.size = none := I1.hok.fresh (Nat.le_refl _)
    refine wpAny_pure ⟨_, rfl, .ref h'.objs.size, upd H2 h'.objs.size (.lst (out.map backV)), I2.laid (t' := tk) (fun b u e => ?_) (Nat.le_refl _)
      (show ObjOk X.prog X.w _ _ _ (.lst (out.map backV)) from ⟨hlen, out, e', vals_back h3, he'⟩), rfl,
      q _ _ (out.map backV) ((out.map backV).map (rowV H2)) (fun b o e => ?_) nl0 upd_same (RowsN.same (fun b o e _ => ?_) (RowsN.of_map hx2)) (by rw [em]; exact hperm.map _) ?_⟩
    · have hb : b < h'.objs.size := Heap.lt_size e
      rw [PyProof.Rows.sortedHeap_old (Nat.ne_of_lt hb) (by rw [size_push']; exact Nat.lt_succ_of_lt hb)]
      exact Heap.get?_push_of_some _ e
    · rw [upd_ne (ne_of_none e nl0)]; exact g b o e
    · rw [upd_ne (ne_of_none e nl)]; exact e
    · rw [LexSorted, List.map_map, List.pairwise_map]
      refine List.Pairwise.imp_of_mem (fun {x y} hx hy h => ?_) o1
      have hxl := (hpI x (o2.perm.mem_iff.mp hx)).2
      have hyl := (hpI y (o2.perm.mem_iff.mp hy)).2
      have h : lexL (fit 2 (rowV H2 (backV y))) (fit 2 (rowV H2 (backV x))) = false := h
      rw [fit_id hxl, fit_id hyl] at h
      exact h
end
end Pv
end
section
set_option linter.all false
set_option maxRecDepth 100000
namespace Pv
open Kvg9
/-! ### matching -/
theorem sq_nonneg (x : Int) : 0 ≤ x * x := by
  rcases Int.le_total 0 x with h | h
  · exact Int.mul_nonneg h h
  · have := Int.mul_nonneg (show 0 ≤ -x by omega) (show 0 ≤ -x by omega)
    rwa [Int.neg_mul_neg] at this
theorem sqd_cast (a b : Vertex) : ((squaredDistance a b : Nat) : Int) = (b.1 - a.1) * (b.1 - a.1) + (b.2 - a.2) * (b.2 - a.2) := by
  unfold squaredDistance
  rw [show a.1 - b.1 = -(b.1 - a.1) by omega, show a.2 - b.2 = -(b.2 - a.2) by omega, Int.neg_mul_neg, Int.neg_mul_neg]
  have h1 := sq_nonneg (b.1 - a.1)
  have h2 := sq_nonneg (b.2 - a.2)
  omega
def nearest (v : Vertex) (l : List Vertex) : Nat := (l.map (squaredDistance v)).foldl min (squaredDistance v (l.headD v))
theorem foldl_min_le : ∀ (l : List Nat) (m : Nat), l.foldl min m ≤ m ∧ (∀ x ∈ l, l.foldl min m ≤ x) ∧ (l.foldl min m = m ∨ l.foldl min m ∈ l)
  | [], m => ⟨Nat.le_refl _, (fun _ h => by cases h), .inl rfl⟩
  | a :: l, m => by
    obtain ⟨h1, h2, h3⟩ := foldl_min_le l (min m a)
    rw [List.foldl_cons]
    refine ⟨Nat.le_trans h1 (Nat.min_le_left m a), fun x hx => ?_, ?_⟩
    · rcases List.mem_cons.mp hx with e | hx
      · rw [e]; exact Nat.le_trans h1 (Nat.min_le_right m a)
      · exact h2 x hx
    · rcases h3 with h3 | h3
      · rw [h3]
        rcases Nat.le_total m a with q | q
        · rw [Nat.min_eq_left q]; exact .inl rfl
        · rw [Nat.min_eq_right q]; exact .inr (by simp)
      · exact .inr (List.mem_cons_of_mem _ h3)
theorem nearest_is {v : Vertex} {l : List Vertex} {m : Nat} (h : m ∈ l.map (squaredDistance v)) (hm : ∀ y ∈ l.map (squaredDistance v), m ≤ y) : m = nearest v l := by
  obtain ⟨h1, h2, h3⟩ := foldl_min_le (l.map (squaredDistance v)) (squaredDistance v (l.headD v))
  cases l with
  | nil => cases h
  | cons a l =>
    have hd : squaredDistance v ((a :: l).headD v) ∈ (a :: l).map (squaredDistance v) := by simp
    refine Nat.le_antisymm ?_ (h2 m h)
    rcases h3 with h3 | h3
    · unfold nearest
      rw [h3]; exact hm _ hd
    · exact hm _ h3
theorem foldl_max_le' : ∀ (l : List Nat) (m : Nat), m ≤ l.foldl max m ∧ (∀ x ∈ l, x ≤ l.foldl max m) ∧ (l.foldl max m = m ∨ l.foldl max m ∈ l)
  | [], m => ⟨Nat.le_refl _, (fun _ h => by cases h), .inl rfl⟩
  | a :: l, m => by
    obtain ⟨h1, h2, h3⟩ := foldl_max_le' l (max m a)
    rw [List.foldl_cons]
    refine ⟨Nat.le_trans (Nat.le_max_left m a) h1, fun x hx => ?_, ?_⟩
    · rcases List.mem_cons.mp hx with e | hx
      · rw [e]; exact Nat.le_trans (Nat.le_max_right m a) h1
      · exact h2 x hx
    · rcases h3 with h3 | h3
      · rw [h3]
        rcases Nat.le_total m a with q | q
        · rw [Nat.max_eq_right q]; exact .inr (by simp)
        · rw [Nat.max_eq_left q]; exact .inl rfl
      · exact .inr (List.mem_cons_of_mem _ h3)
theorem max_is {l : List Nat} {m : Nat} (h : m ∈ l) (hm : ∀ y ∈ l, y ≤ m) : m = l.foldl max 0 := by
  obtain ⟨h1, h2, h3⟩ := foldl_max_le' l 0
  refine Nat.le_antisymm (h2 m h) ?_
  rcases h3 with h3 | h3
  · rw [h3]; exact Nat.zero_le _
  · exact hm _ h3
def gDist (a b : List Vertex) : Nat := (a.map fun v => nearest v b).foldl max 0
theorem spread_eq (a b : List Vertex) : spread a b = max (gDist a b) (gDist b a) := by
  unfold spread gDist nearest
  rw [List.foldl_append]
  have h : ∀ (l : List Nat) (m : Nat), l.foldl max m = max m (l.foldl max 0) := by
    intro l
    induction l with
    | nil => intro m; simp
    | cons a l ih =>
      intro m
      rw [List.foldl_cons, List.foldl_cons, ih, ih (max 0 a)]
      omega
  rw [h]
def shiftedV (a b : List Vertex) : Bool := a.length == b.length && (a.zip b).all fun q => decide (q.2.1 - q.1.1 = (b.headD (0, 0)).1 - (a.headD (0, 0)).1) && decide (q.2.2 - q.1.2 = (b.headD (0, 0)).2 - (a.headD (0, 0)).2)
def corrV (a b : List Vertex) : Nat × Nat := if a = b then (0, 0) else if shiftedV a b then (1, squaredDistance (a.headD (0, 0)) (b.headD (0, 0))) else (2, spread a b)
theorem corr_eq (f g : Feature) : correspondence f g = corrV f.vertices g.vertices := rfl
/-! the pairs, in order -/
def keyRow (m : Match) : List Int := [m.kind, m.distance, m.first, m.second]
theorem less_lex : ∀ (l m : List Nat), Match.before.less l m = lexL (l.map fun n : Nat => (n : Int)) (m.map fun n : Nat => (n : Int))
  | [], [] => rfl
  | [], _ :: _ => rfl
  | _ :: _, [] => rfl
  | a :: l, b :: m => by
    show (decide (a < b) || (a == b && Match.before.less l m)) = if (a : Int) = (b : Int) then lexL _ _ else decide ((a : Int) < (b : Int))
    rw [less_lex l m]
    by_cases h : a = b
    · rw [if_pos (by rw [h]), h]
      simp
    · rw [if_neg (by omega)]
      by_cases q : a < b
      · rw [decide_eq_true q, decide_eq_true (show (a : Int) < (b : Int) by omega)]; rfl
      · rw [decide_eq_false q, decide_eq_false (show ¬ (a : Int) < (b : Int) by omega)]
        simp [h]
theorem before_lex (m n : Match) : m.before n = lexL (keyRow m) (keyRow n) := less_lex [m.kind, m.distance, m.first, m.second] [n.kind, n.distance, n.first, n.second]
theorem insM_perm (m : Match) : ∀ l : List Match, (insertMatch m l).Perm (m :: l)
  | [] => List.Perm.refl _
  | n :: l => by
    unfold insertMatch
    split
    · exact List.Perm.refl _
    · exact ((insM_perm m l).cons n).trans (List.Perm.swap m n l)
abbrev MSrt (l : List Match) : Prop := l.Pairwise fun x y => lexL (keyRow y) (keyRow x) = false
theorem insM_srt (m : Match) : ∀ {l : List Match}, MSrt l → MSrt (insertMatch m l)
  | [], _ => List.pairwise_singleton _ _
  | n :: l, s => by
    obtain ⟨h1, h2⟩ := List.pairwise_cons.mp s
    unfold insertMatch
    rw [before_lex]
    split
    · rename_i q
      refine List.pairwise_cons.mpr ⟨fun x hx => ?_, s⟩
      rcases List.mem_cons.mp hx with e | hx
      · rw [e]; exact lexL_asym _ _ q
      · have h3 := h1 x hx
        refine lexL_neg (d := 4) (y := keyRow n) rfl rfl rfl h3 (lexL_asym _ _ q)
    · rename_i q
      refine List.pairwise_cons.mpr ⟨fun x hx => ?_, insM_srt m h2⟩
      rcases List.mem_cons.mp ((insM_perm m l).mem_iff.mp hx) with e | hx
      · rw [e]; simpa using q
      · exact h1 x hx
def sortM (l : List Match) : List Match := l.foldl (fun sorted m => insertMatch m sorted) []
theorem sortM_fold : ∀ (l acc : List Match), MSrt acc → MSrt (l.foldl (fun sorted m => insertMatch m sorted) acc) ∧ (l.foldl (fun sorted m => insertMatch m sorted) acc).Perm (l ++ acc)
  | [], acc, s => ⟨s, List.Perm.refl _⟩
  | m :: l, acc, s => by
    obtain ⟨h1, h2⟩ := sortM_fold l (insertMatch m acc) (insM_srt m s)
    rw [List.foldl_cons]
    refine ⟨h1, h2.trans ?_⟩
    refine ((insM_perm m acc).append_left l).trans ?_
    exact List.perm_middle
/-- sorted rows are told by what they are -/
theorem lex_uniq {l m : List (List Int)} (hl : ∀ r ∈ l, r.length = 4) (hm : ∀ r ∈ m, r.length = 4) (sl : LexSorted l) (sm : LexSorted m) (p : l.Perm m) : l = m := by
  refine List.Perm.eq_of_pairwise (le := fun x y => lexL y x = false) (fun a b ha hb h1 h2 => ?_) sl sm p
  rcases lexL_tot a b (by rw [hl a ha, hm b hb]) with h | h | h
  · rw [h2] at h; cases h
  · exact h
  · rw [h1] at h; cases h
def possM (a b : Version) (tol : Nat) : List Match := (a.flatMap fun f => b.map fun g => let c := correspondence f g
    (⟨f.id, g.id, c.1, c.2⟩ : Match)).filter fun m => decide (m.distance ≤ tol * tol)
/-- the rows for one feature of the first version -/
def mRow (f g : Feature) : List Int := keyRow ⟨f.id, g.id, (corrV f.vertices g.vertices).1, (corrV f.vertices g.vertices).2⟩
def fRows (tol : Nat) (f : Feature) (gs : List Feature) : List (List Int) := (gs.filter fun g => decide ((corrV f.vertices g.vertices).2 ≤ tol * tol)).map (mRow f)
theorem poss_rows (a b : Version) (tol : Nat) : (possM a b tol).map keyRow = a.flatMap fun f => fRows tol f b := by
  unfold possM fRows
  rw [List.filter_flatMap, List.map_flatMap]
  congr 1
  funext f
  rw [List.filter_map, List.map_map]
  rfl
theorem fRows_perm {tol : Nat} {a b as bs : List Feature} (ha : as.Perm a) (hb : bs.Perm b) : (as.flatMap fun f => fRows tol f bs).Perm (a.flatMap fun f => fRows tol f b) := by
  have h : ∀ l : List Feature, (l.flatMap fun f => fRows tol f bs).Perm (l.flatMap fun f => fRows tol f b) := by
    intro l
    induction l with
    | nil => exact List.Perm.refl _
    | cons f l ih =>
      rw [List.flatMap_cons, List.flatMap_cons]
      exact ((hb.filter _).map _).append ih
  exact (h as).trans (ha.flatMap_right _)
theorem sorted_is {a b : Version} {tol : Nat} {as bs : List Feature} (ha : as.Perm a) (hb : bs.Perm b) {rs : List (List Int)} (hs : LexSorted rs) (hp : rs.Perm (as.flatMap fun f => fRows tol f bs)) : rs = (sortM (possM a b tol)).map keyRow := by
  obtain ⟨h1, h2⟩ := sortM_fold (possM a b tol) [] List.Pairwise.nil
  rw [List.append_nil] at h2
  have pr : rs.Perm ((sortM (possM a b tol)).map keyRow) := (hp.trans (fRows_perm ha hb)).trans (by rw [← poss_rows]; exact (h2.map keyRow).symm)
  have l4 : ∀ r ∈ (sortM (possM a b tol)).map keyRow, r.length = 4 := fun r hr => by
    obtain ⟨m, _, rfl⟩ := List.mem_map.mp hr
    rfl
  refine lex_uniq (fun r hr => l4 r (pr.mem_iff.mp hr)) l4 hs ?_ pr
  rw [LexSorted, List.pairwise_map]
  exact h1
/-! what is taken -/
def tStep (taken : List Match) (m : Match) : List Match := if taken.any fun t => t.first == m.first || t.second == m.second then taken else taken ++ [m]
def takenM (l : List Match) : List Match := l.foldl tStep []
theorem match_eq (a b : Version) (tol : Nat) : matchVersions a b tol = takenM (sortM (possM a b tol)) := rfl
theorem tStep_any (taken : List Match) (m : Match) : (taken.any fun t => t.first == m.first || t.second == m.second) = (decide (m.first ∈ taken.map Match.first) || decide (m.second ∈ taken.map Match.second)) := by
  rw [Bool.eq_iff_iff, Bool.or_eq_true, decide_eq_true_eq, decide_eq_true_eq, List.any_eq_true, List.mem_map, List.mem_map]
  constructor
  · rintro ⟨t, ht, e⟩
    rcases Bool.or_eq_true _ _ ▸ e with e | e
    · exact .inl ⟨t, ht, eq_of_beq e⟩
    · exact .inr ⟨t, ht, eq_of_beq e⟩
  · rintro (⟨t, ht, e⟩ | ⟨t, ht, e⟩)
    · exact ⟨t, ht, by rw [e]; simp⟩
    · exact ⟨t, ht, by rw [e]; simp⟩
theorem poss_len {a b : Version} {tol : Nat} (h1 : a.length ≤ 16) (h2 : b.length ≤ 16) : (possM a b tol).length ≤ 256 := by
  unfold possM
  refine Nat.le_trans (List.length_filter_le _ _) ?_
  have h : ∀ a : List Feature, (a.flatMap fun f => b.map fun g => let c := correspondence f g
    (⟨f.id, g.id, c.1, c.2⟩ : Match)).length = a.length * b.length := by
    intro a
    induction a with
    | nil => simp
    | cons f a ih => rw [List.flatMap_cons, List.length_append, ih, List.length_map, List.length_cons, Nat.succ_mul]; omega
  rw [h]
  exact Nat.mul_le_mul h1 h2
end Pv
end
section
set_option Elab.async false
set_option linter.all false
set_option maxRecDepth 100000
set_option maxHeartbeats 2000000
namespace Pv
open PySem PySem.Spec PyProof.Rows L2 Kvg9
open L2 (Dp DpAll)
variable {P : Program} {w : World} {K : PySem.W.Frag} {mg : Str → Option Value}
/-! ### hashes -/
def byteN (n : Int) (i : Nat) : Nat := (n / 2 ^ (8 * i) % 256).toNat
def bytesN (n : Int) (c : Nat) : List Nat := (List.range c).map (byteN n)
abbrev vN (n : Nat) : V := .int (n : Nat)
def spBytes : Sp := fun vs H Q _ => ∃ (n : Int) (c : Nat), vs = [.int n, .int (c : Nat)] ∧ c ≤ 8 ∧ ∀ H' l, Same H H' → H l = none → H' l = some (.lst ((bytesN n c).map vN)) → Q (.ref l) H'
theorem byteN_cast (n : Int) (i : Nat) : ((byteN n i : Nat) : Int) = n / 2 ^ (8 * i) % 256 := by
  unfold byteN
  omega
theorem sc_bytes_of : FnScope ["number", "byte_count", "place"] ["number", "byte_count"] (defScope s_bytes_of) := ⟨rfl, rfl, rfl, by decide +kernel, rfl, by decide +kernel, by decide +kernel⟩
theorem ok_bytes_of (T : Tx K mg) : Ok P w K mg ("bytes_of", none) ["number", "byte_count"] 1 (spBytes) := by
  refine T.ok (i := 68) (d := d_bytes_of) rfl rfl sc_bytes_of (fun vs H Q E h => ?_) (fun _ _ _ _ _ _ us hl => match us, hl with | [_, _], _ => rfl) (fun base tb cdv A outer s H vs Q E hr h => ?_)
  · obtain ⟨n, c, rfl, _⟩ := h
    rfl
  · obtain ⟨n, c, rfl, hc, k⟩ := h
    have hu := hu_of hr
    refine ⟨_, (pss_one (ps_ret (pe_lc (own := [("place", 2)]) rfl sc_bytes_of.nd (pi_range1 rfl (T.free 91) (pa_cons (pv 1) pa_nil)) (blkOk_by (N := ["number", "byte_count", "place"]) (sc := defScope s_bytes_of) (by decide +kernel)) (fun _ _ _ _ _ => (pg_name (i := 2) sc_bytes_of.nd rfl (by first | exact Or.inl rfl | exact Or.inr rfl))) (fun _ _ _ _ _ => pts_nil) (fun _ _ _ _ _ => (pe_op op_andM (pe_op op_shrN (pv 0) (pe_op op_mul pe_int (pv 2))) pe_int))))), ?_⟩
    refine ⟨_, rfl, _, rfl, by omega, by omega, ?_⟩
    rw [Int.toNat_natCast]
    refine fun D nD => lc_any (n := c) (LcP H D (fun i acc _ => acc = ((bytesN n c).take i).map vN)) (LcP.start nD rfl) (fun i H1 hi p => hi) (fun H1 p => Nat.le_refl _) ?_ ?_
    · rintro i x H1 H1' hi ⟨s, acc, hD, hA, r⟩ ⟨rfl, rfl⟩
      refine ⟨rfl, ?_⟩
      refine ⟨_, rfl, _, rfl, _, _, rfl, rfl, ?_, ?_⟩
      · exact .inl ⟨by decide, by decide⟩
      refine ⟨n, 8 * i, rfl, ?_, _, 8, rfl, ?_, ?_⟩
      · show V.int (8 * ((0 : Int) + (i : Nat))) = V.int ((8 * i : Nat) : Int)
        congr 1
        omega
      · rfl
      refine LcP.put (n := 1000) nD s hD hA (Same.refl _) (by omega) ?_
      show acc ++ [_] = _
      rw [show acc = _ from r, take_snoc (x := byteN n i) (by unfold bytesN; rw [List.getElem?_map, List.getElem?_range hi]; rfl), List.map_append]
      congr 1
      show [V.int _] = [V.int _]
      rw [byteN_cast]
      rfl
    · rintro H1 ⟨s, acc, hD, hA, r⟩
      refine k H1 D s nD ?_
      rw [hD, show acc = _ from r, List.take_of_length_le (by simp [bytesN])]
def fst64 (h b : Nat) : Nat := Nat.xor h b * 1099511628211 % 2 ^ 64
def fnvFrom (h : Nat) (l : List Nat) : Nat := l.foldl fst64 h
theorem p64 : (2 : Int) ^ (64 : Int).toNat = 18446744073709551616 := by decide
theorem st64a (x : Nat) : (x : Int) * 1099511628211 % 18446744073709551616 = ((x * 1099511628211 % 2 ^ 64 : Nat) : Int) := by omega
theorem st64b (h m : Nat) : Builtin.bitXor (h : Nat) (m : Nat) = ((h ^^^ m : Nat) : Int) := by
  rw [Bits.bitXor_pp (Int.natCast_nonneg _) (Int.natCast_nonneg _), Int.toNat_natCast, Int.toNat_natCast]
theorem st64c (h m : Nat) : fst64 h m = (h ^^^ m) * 1099511628211 % 2 ^ 64 := rfl
theorem step64 (h m : Nat) : Builtin.bitXor (h : Nat) (m : Nat) * 1099511628211 % 2 ^ (64 : Int).toNat = ((fst64 h m : Nat) : Int) := by
  rw [p64, st64b, st64c, ← st64a]
theorem fnvFrom_snoc (h : Nat) (l : List Nat) (m : Nat) : fnvFrom h (l ++ [m]) = fst64 (fnvFrom h l) m := by
  unfold fnvFrom
  rw [List.foldl_append, List.foldl_cons, List.foldl_nil]
theorem fnv_eq (l : List Nat) : fnv l = fnvFrom 14695981039346656037 l := rfl
def spHashN (K : PySem.W.Frag) : Sp := fun vs H Q _ => ∃ (a : Addr) (l : List Int) (c : Nat), vs = [.ref a, .int (c : Nat)] ∧ SqL K H a (l.map V.int) ∧ c ≤ 8 ∧ ∀ H', Same H H' → Q (vN (fnv (l.flatMap fun n => bytesN n c))) H'
theorem sc_hash_of_numbers : FnScope ["numbers", "byte_count", "value", "number", "byte"] ["numbers", "byte_count"] (defScope s_hash_of_numbers) := ⟨rfl, rfl, rfl, by decide +kernel, rfl, by decide +kernel, by decide +kernel⟩
theorem ok_hash_of_numbers (T : Tx K mg) : Ok P w K mg ("hash_of_numbers", none) ["numbers", "byte_count"] 2 (spHashN K) := by
  refine T.ok (i := 67) (d := d_hash_of_numbers) rfl rfl sc_hash_of_numbers (fun vs H Q E h => ?_) (fun _ _ _ _ _ _ us hl => match us, hl with | [_, _], _ => rfl) (fun base tb cdv A outer s H vs Q E hr h => ?_)
  · obtain ⟨a, l, c, rfl, _⟩ := h
    rfl
  · obtain ⟨a, l, c, rfl, hl, hc, k⟩ := h
    have hu := hu_of hr
    refine ⟨_, (pss_cons (ps_set (i := 2) sc_hash_of_numbers.nd rfl (by first | exact Or.inl rfl | exact Or.inr rfl) (pe_gint (T.int 134) rfl))
        (pss_cons (ps_for PassesOwn.never rfl (kPiL (K := K) rfl (pv 0)) (pg_name (i := 3) sc_hash_of_numbers.nd rfl (by first | exact Or.inl rfl | exact Or.inr rfl))
          (pss_one (ps_for PassesOwn.never rfl (kPiL (K := K) rfl (pe_callO (ok_bytes_of T) tb (T.glo 68) hr rfl (pa_cons (pv 3) (pa_cons (pv 1) pa_nil)))) (pg_name (i := 4) sc_hash_of_numbers.nd rfl (by first | exact Or.inl rfl | exact Or.inr rfl))
          (pss_one (ps_set (i := 2) sc_hash_of_numbers.nd rfl (by first | exact Or.inl rfl | exact Or.inr rfl) (pe_op op_mod (pe_op op_mul (pe_op op_xor (pv 2) (pv 4)) (pe_gint (T.int 135) rfl)) (pe_op op_pow pe_int pe_int)))))))
        (pss_one (ps_ret (pv 2))))), ?_⟩
    refine ⟨_, rfl, a, rfl, ⟨_, hl⟩, for_list (K := K) (a := a) (xs := l.map V.int) (fun i σ H1 => ∃ v b : Option V, σ = [some (.ref a), some (vN c), some (vN (fnvFrom 14695981039346656037 ((l.take i).flatMap fun n => bytesN n c))), v, b] ∧ Same H H1)
      ⟨none, none, rfl, Same.refl H⟩ (fun i σ H1 _ ⟨_, _, _, s⟩ => s.seq hl) ?_ ?_⟩
    · rintro i x σ H1 hi ⟨v, b, rfl, s⟩
      obtain ⟨n, e, rfl⟩ := nth_int hi
      refine ⟨_, rfl, _, rfl, n, c, rfl, hc, fun H2 t s2 nt ht => ⟨t, rfl, ⟨_, SqL.of ht⟩, ?_⟩⟩
      refine for_list (K := K) (a := t) (xs := (bytesN n c).map vN) (fun j σ H3 => ∃ b : Option V, σ = [some (.ref a), some (vN c), some (vN (fnvFrom 14695981039346656037 ((l.take i).flatMap (fun n => bytesN n c) ++ (bytesN n c).take j))), some (.int n), b] ∧ Same H2 H3)
        ⟨b, by simp, Same.refl H2⟩ (fun i σ H1 _ ⟨_, _, s⟩ => s.seq (SqL.of ht)) ?_ ?_
      · rintro j x σ H3 hj ⟨b, rfl, s3⟩
        obtain ⟨m, e2, rfl⟩ := nth_map hj
        refine ⟨_, rfl, _, rfl, _, _, rfl, rfl, ?_⟩
        refine ⟨_, _, rfl, rfl, .inr ⟨by decide, by decide⟩, ?_⟩
        refine ⟨2, 64, rfl, rfl, ⟨by decide, by decide, by decide⟩, ?_⟩
        refine ⟨_, _, rfl, rfl, (by show (0 : Int) < 2 ^ (64 : Int).toNat; decide), ?_⟩
        refine ⟨some (vN m), ?_, s3⟩
        rw [take_snoc e2, ← List.append_assoc, fnvFrom_snoc]
        generalize fnvFrom 14695981039346656037 _ = hv
        show [_, _, some (V.int (Builtin.bitXor (hv : Nat) (m : Nat) * 1099511628211 % 2 ^ (64 : Int).toNat)), _, _] = _
        rw [step64]
      · rintro σ H3 ⟨b, rfl, s3⟩
        refine ⟨some (.int n), b, ?_, s.trans (s2.trans s3)⟩
        rw [take_snoc e, List.flatMap_append, List.length_map, List.take_length]
        simp
    · rintro σ H1 ⟨v, b, rfl, s⟩
      refine ⟨_, rfl, ?_⟩
      rw [List.length_map, List.take_length]
      exact k H1 s
theorem bytesN_4 (n : Int) : bytesN n 4 = bytes4 n := by
  have h : ∀ i, byteN n i = (n / 2 ^ (8 * i) % 256).toNat := fun _ => rfl
  show [byteN n 0, byteN n 1, byteN n 2, byteN n 3] = [(n % 2 ^ 32).toNat % 256, (n % 2 ^ 32).toNat / 256 % 256, (n % 2 ^ 32).toNat / 65536 % 256, (n % 2 ^ 32).toNat / 16777216]
  simp only [h, List.cons.injEq, and_true]
  refine ⟨?_, ?_, ?_, ?_⟩ <;> omega
def verNums (v : Version) : List Int := (v.length : Int) :: v.flatMap fun f => (f.id : Int) :: featureValues f
theorem fv_len {f : Feature} (h1 : f.attributes.length ≤ 8) (h2 : f.vertices.length ≤ 12) : (featureValues f).length ≤ 34 := by
  have h : ∀ l : List (Int × Int), (l.flatMap fun v => [v.1, v.2]).length = 2 * l.length := by
    intro l
    induction l with
    | nil => rfl
    | cons v l ih => rw [List.flatMap_cons, List.length_append, ih]; simp; omega
  unfold featureValues
  rw [List.length_append, List.length_cons, List.length_cons, h]
  omega
theorem nums_len : ∀ {v : Version}, (∀ f ∈ v, f.attributes.length ≤ 8 ∧ f.vertices.length ≤ 12) → (v.flatMap fun f => (f.id : Int) :: featureValues f).length ≤ 35 * v.length
  | [], _ => Nat.le_refl _
  | f :: v, h => by
    have h1 := h f (by simp)
    have h2 := fv_len h1.1 h1.2
    have h3 := nums_len (v := v) fun x hx => h x (List.mem_cons_of_mem _ hx)
    rw [List.flatMap_cons, List.length_append, List.length_cons, List.length_cons]
    omega
theorem nums_snoc {v : Version} {i : Nat} {f : Feature} (e : v[i]? = some f) : ((v.take (i + 1)).flatMap fun f => (f.id : Int) :: featureValues f) = ((v.take i).flatMap fun f => (f.id : Int) :: featureValues f) ++ (f.id : Int) :: featureValues f := by
  rw [take_snoc e, List.flatMap_append]
  simp
theorem bytes_ver (v : Version) : fnv ((verNums v).flatMap fun n => bytesN n 4) = hashVersion v := by
  have e : (fun n : Int => bytesN n 4) = bytes4 := funext bytesN_4
  rw [e]
  unfold hashVersion verNums
  rw [List.flatMap_cons]
  congr 2
  induction v with
  | nil => rfl
  | cons f v ih =>
    rw [List.flatMap_cons, List.flatMap_append, ih, List.flatMap_cons (xs := v)]
    congr 1
    unfold encodeFeature featureValues
    simp only [List.flatMap_cons, List.flatMap_append, List.append_assoc, List.flatMap_assoc]
    simp
theorem bytesN_8 (n : Nat) : bytesN n 8 = bytes8 n := by
  have h : ∀ i, byteN n i = ((n : Int) / 2 ^ (8 * i) % 256).toNat := fun _ => rfl
  show [byteN n 0, byteN n 1, byteN n 2, byteN n 3, byteN n 4, byteN n 5, byteN n 6, byteN n 7] = [(((n % 2 ^ 32 : Nat) : Int) % 2 ^ 32).toNat % 256, (((n % 2 ^ 32 : Nat) : Int) % 2 ^ 32).toNat / 256 % 256, (((n % 2 ^ 32 : Nat) : Int) % 2 ^ 32).toNat / 65536 % 256, (((n % 2 ^ 32 : Nat) : Int) % 2 ^ 32).toNat / 16777216] ++
    [(((n / 2 ^ 32 : Nat) : Int) % 2 ^ 32).toNat % 256, (((n / 2 ^ 32 : Nat) : Int) % 2 ^ 32).toNat / 256 % 256, (((n / 2 ^ 32 : Nat) : Int) % 2 ^ 32).toNat / 65536 % 256, (((n / 2 ^ 32 : Nat) : Int) % 2 ^ 32).toNat / 16777216]
  simp only [h, List.cons.injEq, and_true, List.cons_append, List.nil_append]
  refine ⟨?_, ?_, ?_, ?_, ?_, ?_, ?_, ?_⟩ <;> omega
def spVerHash (K : PySem.W.Frag) : Sp := fun vs H Q _ => ∃ (a : Addr) (v : Version) (ac : Nat), vs = [.ref a] ∧ VerAt K H a v ∧ VOk ac v ∧ ac ≤ 8 ∧ ∀ H', Same H H' → Q (vN (hashVersion v)) H'
theorem sc_version_hash : FnScope ["version", "numbers", "feature_id"] ["version"] (defScope s_version_hash) := ⟨rfl, rfl, rfl, by decide +kernel, rfl, by decide +kernel, by decide +kernel⟩
theorem ok_version_hash (T : Tx K mg) : Ok P w K mg ("version_hash", none) ["version"] 3 (spVerHash K) := by
  refine T.ok (i := 66) (d := d_version_hash) rfl rfl sc_version_hash (fun vs H Q E h => ?_) (fun _ _ _ _ _ _ us hl => match us, hl with | [_], _ => rfl) (fun base tb cdv A outer s H vs Q E hr h => ?_)
  · obtain ⟨a, v, ac, rfl, _⟩ := h
    rfl
  · obtain ⟨a, v, ac, rfl, ⟨kvs, hd, D⟩, ok, h8, k⟩ := h
    obtain ⟨ks, ek, lk, hs⟩ := D.sorted ok.srt
    have lv := ok.len
    have hall : ∀ f ∈ v, f.attributes.length ≤ 8 ∧ f.vertices.length ≤ 12 := fun f hf => ⟨by rw [(ok.all f hf).al]; exact h8, (ok.all f hf).v2⟩
    have hu := hu_of hr
    refine ⟨_, (pss_cons (ps_set (i := 1) sc_version_hash.nd rfl (by first | exact Or.inl rfl | exact Or.inr rfl) (pe_lst (pa_cons (pe_callB call_lenD (by rfl) (T.free 87) PySem.boot_len (pa_cons (pv 0) pa_nil)) pa_nil)))
        (pss_cons (ps_for PassesOwn.never rfl (kPiL (K := K) rfl (pe_callB (call_sortedDI rfl) (by rfl) (T.free 93) (by decide +kernel) (pa_cons (pv 0) pa_nil))) (pg_name (i := 2) sc_version_hash.nd rfl (by first | exact Or.inl rfl | exact Or.inr rfl))
          (pss_cons (ps_expr (pe_bm PySem.F.plainAttrs_list PySem.F.slot_list_append PySem.F.type_list_append mt_append (pv 1) (pa_cons (pv 2) pa_nil)))
        (pss_one (ps_expr (pe_bm PySem.F.plainAttrs_list PySem.F.slot_list_extend PySem.F.type_list_extend (kExt (K := K) rfl) (pv 1) (pa_cons (pe_callO (ok_written_feature T) tb (T.glo 35) hr rfl (pa_cons (pe_dget hu (pv 0) (pv 2) (fun _ _ => rfl)) pa_nil)) pa_nil))))))
        (pss_one (ps_ret (pe_callO (ok_hash_of_numbers T) tb (T.glo 67) hr rfl (pa_cons (pv 1) (pa_cons (pe_gint (T.int 136) rfl) pa_nil))))))), ?_⟩
    refine ⟨_, rfl, a, kvs, rfl, hd, by show 1 ≤ sizeLine; decide, fun l nl => ?_⟩
    have s1 := same_upd (o := .lst [V.int (kvs.length : Nat)]) nl
    refine ⟨_, rfl, a, kvs, ks, rfl, .inl (s1 _ _ hd), ek, by omega, fun ys p hp hq np => ?_⟩
    obtain rfl := hs ys hp hq
    have s2 := same_upd (o := .lst ((v.map fun f => (f.id : Int)).map V.int)) np
    have npl : l ≠ p := ne_of_none upd_same np
    refine ⟨p, rfl, ⟨_, SqL.of upd_same⟩, for_list (K := K) (a := p) (xs := (v.map fun f => (f.id : Int)).map V.int) (fun i σ H1 => ∃ x : Option V, σ = [some (.ref a), some (.ref l), x] ∧ Same H H1 ∧ H1 p = some (.lst ((v.map fun f => (f.id : Int)).map V.int)) ∧
      H1 l = some (.lst (((v.length : Int) :: (v.take i).flatMap fun f => (f.id : Int) :: featureValues f).map V.int)))
      ⟨none, rfl, s1.trans s2, upd_same, ?_⟩ (fun i σ H1 _ ⟨_, _, _, q, _⟩ => SqL.of q) ?_ ?_⟩
    · rw [upd_ne npl, upd_same, D.len ok.srt]
      rfl
    · rintro i x σ H1 hi ⟨y, rfl, s, hp1, hl1⟩
      obtain ⟨n, e, rfl⟩ := nth_int hi
      rw [List.getElem?_map] at e
      cases ef : v[i]? with
      | none => rw [ef] at e; cases e
      | some f =>
        rw [ef] at e
        obtain rfl : (f.id : Int) = n := Option.some.inj e
        have hf : f ∈ v := List.mem_of_getElem? ef
        obtain ⟨z, e1, e2⟩ := D.some (find_of_mem ok.srt hf)
        have hlen := nums_len (v := v.take (i + 1)) fun g hg => hall g (List.mem_of_mem_take hg)
        rw [nums_snoc ef, List.length_append, List.length_cons] at hlen
        have hi2 : (v.take (i + 1)).length ≤ 16 := by rw [List.length_take]; omega
        refine ⟨_, rfl, .inl ⟨rfl, _, SqL.of hl1⟩, _, rfl, l, _, _, rfl, rfl, hl1, ?_, ?_⟩
        · refine small (m := 1000) ?_
          rw [List.length_map, List.length_cons]
          omega
        have s3 : Same H (upd H1 l (.lst (((v.length : Int) :: (v.take i).flatMap fun f => (f.id : Int) :: featureValues f).map V.int ++ [V.int (f.id : Int)]))) := fun c o hc => by
          rw [upd_ne (ne_of_none hc nl)]; exact s c o hc
        have gd := DGet.k (k := kI f.id) (s3 _ _ hd)
        rw [e1] at gd
        refine ⟨_, rfl, .inl ⟨rfl, _, SqL.of upd_same⟩, _, rfl, _, rfl, a, z, rfl, gd, z, f, rfl, e2.tup (Tup.of s3), (hall f hf).1, (hall f hf).2, fun H2 t s4 nt ht => ?_⟩
        refine ⟨l, t, _, _, rfl, rfl, s4 _ _ upd_same, .inl ht, ?_, some (V.int (f.id : Int)), rfl, fun c o hc => ?_, ?_, ?_⟩
        · refine small' (m := 1000) ?_
          rw [List.length_append, List.length_map, List.length_cons, List.length_map, List.length_cons, List.length_nil]
          omega
        · rw [upd_ne (ne_of_none hc nl)]; exact s4 _ _ (s3 _ _ hc)
        · rw [upd_ne (Ne.symm npl)]
          refine s4 _ _ ?_
          rw [upd_ne (Ne.symm npl)]
          exact hp1
        · rw [upd_same, nums_snoc ef]
          simp
    · rintro σ H1 ⟨y, rfl, s, hp1, hl1⟩
      rw [List.length_map, List.length_map, List.take_length] at hl1
      refine ⟨_, rfl, l, verNums v, 4, rfl, SqL.of hl1, by decide, fun H2 s2 => ?_⟩
      rw [bytes_ver]
      exact k H2 (s.trans s2)
def comHash (hs : List Nat) (v : Version) : Nat := fnv (hs.flatMap bytes8 ++ bytes8 (hashVersion v))
def spComHash (K : PySem.W.Frag) : Sp := fun vs H Q _ => ∃ (a b : Addr) (v : Version) (ac : Nat) (hs : List Nat), vs = [.ref b, .ref a] ∧ H b = some (.lst (hs.map vN)) ∧ hs.length ≤ 1000 ∧ VerAt K H a v ∧ VOk ac v ∧ ac ≤ 8 ∧ ∀ H', Same H H' → Q (vN (comHash hs v)) H'
theorem sc_commit_hash : FnScope ["parent_hashes", "version", "hashes"] ["parent_hashes", "version"] (defScope s_commit_hash) := ⟨rfl, rfl, rfl, by decide +kernel, rfl, by decide +kernel, by decide +kernel⟩
theorem ok_commit_hash (T : Tx K mg) : Ok P w K mg ("commit_hash", none) ["parent_hashes", "version"] 4 (spComHash K) := by
  refine T.ok (i := 65) (d := d_commit_hash) rfl rfl sc_commit_hash (fun vs H Q E h => ?_) (fun _ _ _ _ _ _ us hl => match us, hl with | [_, _], _ => rfl) (fun base tb cdv A outer s H vs Q E hr h => ?_)
  · obtain ⟨a, b, v, ac, hs, rfl, _⟩ := h
    rfl
  · obtain ⟨a, b, v, ac, hs, rfl, hb, hl, hv, ok, h8, k⟩ := h
    have hu := hu_of hr
    refine ⟨_, (pss_cons (ps_set (i := 2) sc_commit_hash.nd rfl (by first | exact Or.inl rfl | exact Or.inr rfl) (pe_op op_cat (pv 0) (pe_lst (pa_cons (pe_callO (ok_version_hash T) tb (T.glo 66) hr rfl (pa_cons (pv 1) pa_nil)) pa_nil))))
        (pss_one (ps_ret (pe_callO (ok_hash_of_numbers T) tb (T.glo 67) hr rfl (pa_cons (pv 2) (pa_cons (pe_gint (T.int 137) rfl) pa_nil)))))), ?_⟩
    refine ⟨_, rfl, _, rfl, a, v, ac, rfl, hv, ok, h8, fun H1 s1 => ⟨by show 1 ≤ sizeLine; decide, fun p np => ⟨b, p, _, _, rfl, rfl, same_upd np _ _ (s1 _ _ hb), upd_same, ?_, fun q nq => ?_⟩⟩⟩
    · refine small' (m := 1001) ?_
      simp
      exact hl
    have s2 := same_upd (o := .lst [vN (hashVersion v)]) np
    have s3 := same_upd (o := .lst (hs.map vN ++ [vN (hashVersion v)])) nq
    refine ⟨_, rfl, q, (hs ++ [hashVersion v]).map (fun n : Nat => (n : Int)), 8, rfl, SqL.of ?_, by decide, fun H2 s4 => ?_⟩
    · rw [upd_same]
      simp
    · have e : fnv (((hs ++ [hashVersion v]).map fun n : Nat => (n : Int)).flatMap fun n => bytesN n 8) = comHash hs v := by
        unfold comHash
        congr 1
        rw [List.flatMap_map, List.flatMap_append]
        simp [bytesN_8]
      rw [e]
      exact k H2 ((s1.trans s2).trans (s3.trans s4))
end Pv
end
section
set_option Elab.async false
set_option linter.all false
set_option maxRecDepth 100000
set_option maxHeartbeats 2000000
namespace Pv
open PySem PySem.Spec PyProof.Rows L2 Kvg9
open L2 (Dp DpAll)
variable {P : Program} {w : World} {K : PySem.W.Frag} {mg : Str → Option Value}
theorem kFld {X : Cx} {e : Expr} {f : Str} {pos : Pos} {ta : TE} (h : X.K = K) (he : PE X e ta) (hb : attributeBase e f X.env (eval e X.env) = eval e X.env) : PE X (.Attribute e f pos) (tFld K ta f) := by subst h; exact pe_fld he hb
/-- the object x is written, all else stands -/
structure Only (x : Addr) (H H' : Hp) : Prop where
  ne : ∀ b, b ≠ x → H' b = H b
theorem Only.refl (x : Addr) (H : Hp) : Only x H H := ⟨fun _ _ => rfl⟩
theorem Only.upd {x : Addr} {H H' : Hp} {o : HO} (h : Only x H H') : Only x H (upd H' x o) := ⟨fun b hb => by rw [upd_ne hb]; exact h.ne b hb⟩
def spComInit (K : PySem.W.Frag) : Sp := fun vs H Q _ => ∃ (x p d dx : Addr) (h : Nat), vs = [.ref x, .ref p, .ref d, vN h] ∧ H x = some (.ins (cCom K) dx []) ∧
  ∀ H' fs, Only x H H' → H' x = some (.ins (cCom K) dx fs) → fs.lookup ("parents" : Str) = some (.ref p) → fs.lookup ("version" : Str) = some (.ref d) → fs.lookup ("hash_value" : Str) = some (vN h) → Q .non H'
theorem sc_Commit_init : FnScope ["self", "parents", "version", "hash_value"] ["self", "parents", "version", "hash_value"] (defScope s_Commit_init) := ⟨rfl, rfl, rfl, by decide +kernel, rfl, by decide +kernel, by decide +kernel⟩
theorem ok_Commit_init (T : Tx K mg) : Ok P w K mg ("Commit", some "__init__") ["self", "parents", "version", "hash_value"] 1 (spComInit K) := by
  refine T.ok (i := 80) (d := d_Commit_init) rfl rfl sc_Commit_init (fun vs H Q E h => ?_) (fun _ _ _ _ _ _ us hl => match us, hl with | [_, _, _, _], _ => rfl) (fun base tb cdv A outer s H vs Q E hr h => ?_)
  · obtain ⟨x, p, d, dx, h, rfl, _⟩ := h
    rfl
  · obtain ⟨x, p, d, dx, hv, rfl, hx, k⟩ := h
    have hu := hu_of hr
    refine ⟨_, (pss_cons (ps_fld (pv 0) (pv 1) rfl)
        (pss_cons (ps_fld (pv 0) (pv 2) rfl)
        (pss_one (ps_fld (pv 0) (pv 3) rfl)))), ?_⟩
    refine ⟨_, rfl, _, rfl, x, _, dx, _, rfl, hx, (T.cls 139), (T.noat 142), by show 0 < 1000; decide, ?_⟩
    refine ⟨_, rfl, _, rfl, x, _, dx, _, rfl, upd_same, (T.cls 139), (T.noat 143), Nat.lt_of_le_of_lt putF_len1 (by show 1 < 1000; decide), ?_⟩
    refine ⟨_, rfl, _, rfl, x, _, dx, _, rfl, upd_same, (T.cls 139), (T.noat 141), Nat.lt_of_le_of_lt (Nat.le_trans putF_len1 (Nat.succ_le_succ putF_len1)) (by show 2 < 1000; decide), ?_⟩
    exact k _ _ ((Only.refl x H).upd.upd.upd) upd_same (by rw [lookup_putF, if_neg (by decide +kernel), lookup_putF, if_neg (by decide +kernel), lookup_putF, if_pos rfl]) (by rw [lookup_putF, if_neg (by decide +kernel), lookup_putF, if_pos rfl]) (by rw [lookup_putF, if_pos rfl])
def spSesInit (K : PySem.W.Frag) : Sp := fun vs H Q _ => ∃ (x dx : Addr), vs = [.ref x] ∧ H x = some (.ins (cSes K) dx []) ∧
  ∀ H' fs, Only x H H' → H' x = some (.ins (cSes K) dx fs) → fs = putF ("store" : Str) V.non [] → Q .non H'
theorem sc_Session_init : FnScope ["self"] ["self"] (defScope s_Session_init) := ⟨rfl, rfl, rfl, by decide +kernel, rfl, by decide +kernel, by decide +kernel⟩
theorem ok_Session_init (T : Tx K mg) : Ok P w K mg ("Session", some "__init__") ["self"] 1 (spSesInit K) := by
  refine T.ok (i := 91) (d := d_Session_init) rfl rfl sc_Session_init (fun vs H Q E h => ?_) (fun _ _ _ _ _ _ us hl => match us, hl with | [_], _ => rfl) (fun base tb cdv A outer s H vs Q E hr h => ?_)
  · obtain ⟨x, dx, rfl, _⟩ := h
    rfl
  · obtain ⟨x, dx, rfl, hx, k⟩ := h
    have hu := hu_of hr
    refine ⟨_, (pss_one (ps_fld (pv 0) pe_non rfl)), ?_⟩
    refine ⟨_, rfl, x, _, dx, _, rfl, hx, (T.cls 164), (T.noat 166), by show 0 < 1000; decide, ?_⟩
    exact k _ _ ((Only.refl x H).upd) upd_same rfl
/-- the current branch moves to a commit -/
def spMove (K : PySem.W.Frag) : Sp := fun vs H Q _ => ∃ a s m av n, vs = [.ref a, vN n] ∧ StoreG K H a s m av ∧ m.co a ⊆ av ∧ NSrt s.branches ∧ s.branches.length ≤ 8 ∧ (∃ c, s.commit n = some c) ∧
  ∀ H' dw, H dw = none → StoreAt K H' a { s with branches := assign s.current n s.branches, working := s.version n } { m with dw := dw } → Fr H a m H' { m with dw := dw } → Q .non H'
theorem sc_Store_move_head : FnScope ["self", "number"] ["self", "number"] (defScope s_Store_move_head) := ⟨rfl, rfl, rfl, by decide +kernel, rfl, by decide +kernel, by decide +kernel⟩
theorem ok_Store_move_head (T : Tx K mg) : Ok P w K mg ("Store", some "move_head") ["self", "number"] 4 (spMove K) := by
  refine T.ok (i := 89) (d := d_Store_move_head) rfl rfl sc_Store_move_head (fun vs H Q E h => ?_) (fun _ _ _ _ _ _ us hl => match us, hl with | [_, _], _ => rfl) (fun base tb cdv A outer s H vs Q E hr h => ?_)
  · obtain ⟨a, s, m, av, n, rfl, _⟩ := h
    rfl
  · obtain ⟨a, s, m, av, n, rfl, S, hco, sr, l8, hn, k⟩ := h
    obtain ⟨⟨dx, fs, h1, F⟩, ⟨kc, h2, C⟩, ⟨kb, h3, B⟩, ⟨kt, h4, T'⟩, W, A⟩ := id S
    obtain ⟨na, nb, nt, nw⟩ := S.ne_a
    have hu := hu_of hr
    refine ⟨_, (pss_cons (ps_dput hu (pe_fld (pv 0) rfl) (pe_fld (pv 0) rfl) (pv 1) rfl)
        (pss_one (ps_expr (pe_methO0 (pv 0) (ok_Store_take_head_version T) tb (T.cls 145) (T.meth 163) hr)))), ?_⟩
    have hl := B.len sr
    refine ⟨_, rfl, _, rfl, _, _, _, _, _, rfl, h1, (T.cls 145), (T.noat 148), F.br, _, rfl, _, _, _, _, _, rfl, h1, (T.cls 145), (T.noat 151), F.cu, m.db, _, rfl, DPut.k (k := kI s.current) h3 (small (m := 20) (by omega)), ?_⟩
    have S1 := S.setB (hco (by simp [Mu.co])) (B.put s.current n)
    have f1 : Fr H a m (upd H m.db (.dK (putK kb (kI s.current) (vN n)))) m := Fr.upd av_b
    have h1' : (upd H m.db (.dK (putK kb (kI s.current) (vN n)))) a = some (.ins (cSto K) dx fs) := by rw [upd_ne nb]; exact h1
    have hd1 : ({ s with branches := assign s.current n s.branches } : Store).head = n := by
      show (lookup (assign s.current n s.branches) s.current).getD 0 = n
      rw [look_assign, if_pos rfl]; rfl
    have hk : HdOk { s with branches := assign s.current n s.branches } := by
      refine ⟨?_, ?_⟩
      · rw [hd1]
        show lookup (assign s.current n s.branches) s.current = some n
        rw [look_assign, if_pos rfl]
      · rw [hd1]; exact hn
    refine ⟨_, rfl, a, dx, _, rfl, h1', F.only ("take_head_version" : Str) (by decide +kernel), a, _, m, av, rfl, S1, hco, hk, fun H2 dw nd S2 f2 => ?_⟩
    refine k H2 dw (f1.al _ nd) ?_ (f1.trans f2)
    have ev : ({ s with branches := assign s.current n s.branches } : Store).version ({ s with branches := assign s.current n s.branches } : Store).head = s.version n := by rw [hd1]; rfl
    rw [ev] at S2
    exact S2
/-! ### a commit is made -/
theorem putK_new {kvs : List (Key × V)} {k : Key} {x : V} (h : valV kvs k = none) : putK kvs k x = kvs ++ [(k, x)] := by
  unfold putK
  rw [if_neg (by rw [valV_any, h]; simp)]
theorem live_snoc {s t : Store} {c : Commit} (e : t.commits = s.commits ++ [some c]) : live t = live s ++ [s.commits.length] := by
  unfold live
  rw [e, List.length_append, List.length_singleton, List.range_succ, List.filter_append]
  congr 1
  · refine List.filter_congr fun n hn => ?_
    rw [commit_snoc s (some c) n e, if_neg (by have := List.mem_range.mp hn; omega)]
  · rw [List.filter_cons, commit_snoc s (some c) _ e, if_pos rfl]
    rfl
def moreC (s : Store) (ps : List Nat) (v : Version) : Store := { s with commits := s.commits ++ [some ⟨ps, v⟩] }
theorem comHash_eq (l : List Nat) (v : Version) : comHash l v = cHash l v := rfl
theorem commit_len {s : Store} : s.commit s.commits.length = none := by
  cases h : s.commit s.commits.length with
  | none => rfl
  | some c => exact absurd (commit_lt h) (Nat.lt_irrefl _)
theorem moreC_commit (s : Store) (ps : List Nat) (v : Version) (n : Nat) : (moreC s ps v).commit n = if n = s.commits.length then some ⟨ps, v⟩ else s.commit n := commit_snoc s (some ⟨ps, v⟩) n rfl
theorem moreC_hash {s : Store} (G : Good s) {ps : List Nat} {v : Version} (hp : ∀ q ∈ ps, (s.commit q).isSome = true) : (moreC s ps v).hashes.getD s.commits.length 0 = cHash (ps.map fun q => s.hashes.getD q 0) v ∧ ∀ n c, s.commit n = some c → (moreC s ps v).hashes.getD n 0 = s.hashes.getD n 0 := by
  have h2 : ∀ n c, s.commit n = some c → (moreC s ps v).hashes.getD n 0 = s.hashes.getD n 0 := fun n c h =>
    (hash_same (s := moreC s ps v) (t := s) (fun n c h => (G.com n c h).low) (fun n c h => by rw [moreC_commit, if_neg (Nat.ne_of_lt (commit_lt h))]; exact h) n c h).symm
  refine ⟨?_, h2⟩
  have low : ∀ p ∈ ps, p < s.commits.length := fun p hpp => by
    obtain ⟨c, hc⟩ := Option.isSome_iff_exists.mp (hp p hpp)
    exact commit_lt hc
  rw [hash_rec (s := moreC s ps v) (n := s.commits.length) (c := ⟨ps, v⟩) (by rw [moreC_commit, if_pos rfl]) low]
  congr 1
  refine List.map_congr_left fun p hpp => ?_
  obtain ⟨c, hc⟩ := Option.isSome_iff_exists.mp (hp p hpp)
  exact h2 p c hc
theorem Fld.setCC' {fs : List (Str × V)} {ac cm cc br cu tg wk : V} (F : Fld fs ac cm cc br cu tg wk) {x y : V} (e : x = y) : Fld (putF ("commit_count" : Str) x fs) ac cm y br cu tg wk := e ▸ F.setCC x
theorem StoreG.addC {H H3 : Hp} {a x p d dy dx : Addr} {s : Store} {m : Mu} {ps : List Nat} {v : Version} {kc : List (Key × V)} {fs gs : List (Str × V)} {z : V} (S : StoreAt K H a s m) (G : Good s) (e : Same H H3) (h1 : H a = some (.ins (cSto K) dx fs)) (h2 : H m.dc = some (.dK kc))
    (nx : H x = none) (hx : H3 x = some (.ins (cCom K) dy gs)) (g1 : gs.lookup ("parents" : Str) = some (.ref p)) (g2 : gs.lookup ("version" : Str) = some (.ref d)) (g3 : gs.lookup ("hash_value" : Str) = some (vN (comHash (ps.map fun q => s.hashes.getD q 0) v)))
    (hp : H p = some (.lst (ps.map vN))) (np : p ∉ m.av a) (hq : ∀ q ∈ ps, (s.commit q).isSome = true) (hd : VerAt K H d v) (nd : d = m.dw ∨ d ∉ m.av a) (ez : z = vN (s.commits.length + 1)) :
    StoreG K (upd (upd H3 m.dc (.dK (putK kc (kI s.commits.length) (.ref x)))) a (.ins (cSto K) dx (putF ("commit_count" : Str) z fs))) a (moreC s ps v) m (m.co a) ∧
    Fr H a m (upd (upd H3 m.dc (.dK (putK kc (kI s.commits.length) (.ref x)))) a (.ins (cSto K) dx (putF ("commit_count" : Str) z fs))) m := by
  obtain ⟨⟨dx', fs', h1', F⟩, ⟨kc', h2', C⟩, ⟨kb, h3, B⟩, ⟨kt, h4, T'⟩, W, A⟩ := id S
  rw [h1] at h1'
  obtain ⟨rfl, rfl⟩ : dx = dx' ∧ fs = fs' := by cases h1'; exact ⟨rfl, rfl⟩
  rw [h2] at h2'
  obtain rfl : kc = kc' := by cases h2'; rfl
  obtain ⟨na, nb, nt, nw⟩ := S.ne_a
  generalize eH : upd (upd H3 m.dc (.dK (putK kc (kI s.commits.length) (.ref x)))) a (.ins (cSto K) dx (putF ("commit_count" : Str) z fs)) = H5
  have st : ∀ b o, H3 b = some o → b ≠ m.dc → b ≠ a → H5 b = some o := fun b o h n1 n2 => by rw [← eH, upd_ne n2, upd_ne n1]; exact h
  have st' : ∀ b o, H b = some o → b ∉ m.av a → H5 b = some o := fun b o h hb => st b o (e _ _ h) (fun q => hb (by rw [q]; exact av_c)) (fun q => hb (by rw [q]; exact av_a))
  have fr : Fr H a m H5 m := by
    refine ⟨st', fun _ h => .inl h, fun b h => ?_⟩
    cases q : H b with
    | none => rfl
    | some o =>
      by_cases n2 : b = a
      · rw [n2, ← eH, upd_same] at h; cases h
      · by_cases n1 : b = m.dc
        · rw [← eH, upd_ne n2, n1, upd_same] at h; cases h
        · rw [st b o (e _ _ q) n1 n2] at h; cases h
  refine ⟨?_, fr⟩
  have tu : Tup H H5 := Fr.tup S fr
  have off : ∀ {b : Addr}, b ∉ m.av a → b ∉ m.co a := fun h z => h (co_av z)
  have xc : x ≠ m.dc := fun q => by rw [q, h2] at nx; cases nx
  have xa : x ≠ a := fun q => by rw [q, h1] at nx; cases nx
  have dv : d ≠ m.dc ∧ d ≠ a ∧ d ∉ m.co a := by
    rcases nd with q | q
    · rw [q]
      refine ⟨A.cw.symm, nw.symm, fun z => ?_⟩
      have : m.dw = a ∨ m.dw = m.dc ∨ m.dw = m.db ∨ m.dw = m.dt := by simpa [Mu.co] using z
      rcases this with q | q | q | q
      · exact nw q.symm
      · exact A.cw q.symm
      · exact A.bw q.symm
      · exact A.tw q.symm
    · exact ⟨fun z => q (by rw [z]; exact av_c), fun z => q (by rw [z]; exact av_a), off q⟩
  have hash := moreC_hash (ps := ps) (v := v) G hq
  refine ⟨⟨dx, _, by rw [← eH, upd_same], ?_⟩, ⟨putK kc (kI s.commits.length) (.ref x), by rw [← eH, upd_ne na.symm, upd_same], ⟨?_, fun n cm hn => ?_⟩⟩, ⟨kb, st _ _ (e _ _ h3) A.cb.symm nb.symm, B⟩, ⟨kt, st _ _ (e _ _ h4) A.ct.symm nt.symm, T'⟩, ?_, A⟩
  · have := F.setCC' ez
    have e2 : (moreC s ps v).commits.length = s.commits.length + 1 := by simp [moreC]
    rw [e2]
    exact this
  · have hv : valV kc (kI s.commits.length) = none := by
      have := C.isSome s.commits.length
      rw [commit_len] at this
      cases q : valV kc (kI s.commits.length) with
      | none => rfl
      | some y => rw [q] at this; cases this
    rw [putK_new hv, List.map_append, C.keys, live_snoc (s := s) (t := moreC s ps v) (c := ⟨ps, v⟩) rfl, List.map_append]
    rfl
  · rw [moreC_commit] at hn
    rw [valV_put]
    by_cases q : n = s.commits.length
    · rw [if_pos q] at hn
      cases hn
      rw [if_pos (by rw [q])]
      refine ⟨x, rfl, dy, gs, p, d, st _ _ hx xc xa, g1, g2, ?_, st' _ _ hp np, ?_, ?_, off np, dv.2.2⟩
      · rw [q, hash.1, ← comHash_eq]; exact g3
      · obtain ⟨kd, k1, k2⟩ := hd
        exact ⟨kd, st _ _ (e _ _ k1) dv.1 dv.2.1, k2.tup tu⟩
      · intro z
        have : x = a ∨ x = m.dc ∨ x = m.db ∨ x = m.dt := by simpa [Mu.co] using z
        rcases this with q | q | q | q
        · exact xa q
        · exact xc q
        · rw [q, h3] at nx; cases nx
        · rw [q, h4] at nx; cases nx
    · rw [if_neg q] at hn
      rw [if_neg (fun z => q (kI_inj.mp z)), hash.2 n cm hn]
      obtain ⟨c, c1, c2⟩ := C.at_ n cm hn
      exact ⟨c, c1, (c2.keep (fun b o h hb _ => st' b o h hb) tu).off fun b hb => .inl (co_av hb)⟩
  · obtain ⟨kw, w1, w2⟩ := W
    exact ⟨kw, st _ _ (e _ _ w1) A.cw.symm nw.symm, w2.tup tu⟩
def spMkCom (K : PySem.W.Frag) : Sp := fun vs H Q _ => ∃ a s m p d ps v, vs = [.ref a, .ref p, .ref d] ∧ StoreAt K H a s m ∧ Good s ∧ s.commits.length < 40 ∧ H p = some (.lst (ps.map vN)) ∧ p ∉ m.av a ∧ ps.length ≤ 2 ∧ (∀ q ∈ ps, (s.commit q).isSome = true) ∧ VerAt K H d v ∧ (d = m.dw ∨ d ∉ m.av a) ∧ VOk s.attributeCount v ∧
  ∀ H' dw, H dw = none → StoreAt K H' a (s.append ps v) { m with dw := dw } → Fr H a m H' { m with dw := dw } → Q (vN s.commits.length) H'
theorem sc_Store_make_commit : FnScope ["self", "parents", "version", "number", "hash_value", "parent"] ["self", "parents", "version"] (defScope s_Store_make_commit) := ⟨rfl, rfl, rfl, by decide +kernel, rfl, by decide +kernel, by decide +kernel⟩
theorem ok_Store_make_commit (T : Tx K mg) : Ok P w K mg ("Store", some "make_commit") ["self", "parents", "version"] 5 (spMkCom K) := by
  refine T.ok (i := 88) (d := d_Store_make_commit) rfl rfl sc_Store_make_commit (fun vs H Q E h => ?_) (fun _ _ _ _ _ _ us hl => match us, hl with | [_, _, _], _ => rfl) (fun base tb cdv A outer s H vs Q E hr h => ?_)
  · obtain ⟨a, s, m, p, d, ps, v, rfl, _⟩ := h
    rfl
  · obtain ⟨a, s, m, p, d, ps, v, rfl, S, G, n40, hp, np, p2, hq, hd, nd, vo, k⟩ := h
    obtain ⟨⟨dx, fs, h1, F⟩, ⟨kc, h2, C⟩, ⟨kb, h3, B⟩, ⟨kt, h4, T'⟩, W, A⟩ := id S
    obtain ⟨na, nb, nt, nw⟩ := S.ne_a
    have hu := hu_of hr
    refine ⟨_, (pss_cons (ps_set (i := 3) sc_Store_make_commit.nd rfl (by first | exact Or.inl rfl | exact Or.inr rfl) (pe_fld (pv 0) rfl))
        (pss_cons (ps_set (i := 4) sc_Store_make_commit.nd rfl (by first | exact Or.inl rfl | exact Or.inr rfl) (pe_callO (ok_commit_hash T) tb (T.glo 65) hr rfl (pa_cons (pe_lc (own := [("parent", 5)]) rfl sc_Store_make_commit.nd (kPiL (K := K) rfl (pv 1)) (blkOk_by (N := ["self", "parents", "version", "number", "hash_value", "parent"]) (sc := defScope s_Store_make_commit) (by decide +kernel)) (fun _ _ _ _ _ => (pg_name (i := 5) sc_Store_make_commit.nd rfl (by first | exact Or.inl rfl | exact Or.inr rfl))) (fun _ _ _ _ _ => pts_nil) (fun _ _ _ _ _ => (kFld (K := K) rfl (pe_dget hu (kFld (K := K) rfl (pv 0) rfl) (pv 5) (fun _ _ => rfl)) rfl))) (pa_cons (pv 2) pa_nil))))
        (pss_cons (ps_dput hu (pe_fld (pv 0) rfl) (pv 3) (pe_makeO (ok_Commit_init T) tb (T.mkr 140) (T.glo 80) hr rfl (pa_cons (pv 1) (pa_cons (pv 2) (pa_cons (pv 4) pa_nil)))) rfl)
        (pss_cons (ps_fldaug (pv 0) pe_int in_add)
        (pss_cons (ps_expr (pe_methO (pv 0) (ok_Store_move_head T) tb (T.cls 145) (T.meth 162) hr (pa_cons (pv 3) pa_nil)))
        (pss_one (ps_ret (pv 3)))))))), ?_⟩
    refine ⟨_, rfl, _, _, _, _, _, rfl, h1, (T.cls 145), (T.noat 149), F.cc, ?_⟩
    refine ⟨_, rfl, p, rfl, ⟨_, SqL.of hp⟩, fun D nD => lc_list (K := K) (a := p) (xs := ps.map vN) (LcP H D (fun i acc _ => acc = (ps.take i).map fun q => vN (s.hashes.getD q 0))) (LcP.start nD rfl) (fun i H' _ p => p.1.seq (SqL.of hp)) ?_ ?_⟩
    · rintro i x H1 hx ⟨s1, acc, hD, ha, r⟩
      obtain ⟨q, e, rfl⟩ := nth_map hx
      obtain ⟨cm, hc⟩ := Option.isSome_iff_exists.mp (hq q (List.mem_of_getElem? e))
      obtain ⟨c, e1, e2⟩ := C.at_ _ _ hc
      obtain ⟨dy, gs, p', d', g1, g2, g3, g4, g5, g6, g7, g8, g9⟩ := e2.ex
      have h1' := s1 _ _ h1
      have gd := DGet.k (k := kI q) (s1 _ _ h2)
      rw [e1] at gd
      refine ⟨rfl, ?_⟩
      refine ⟨_, rfl, _, _, _, _, _, rfl, h1', (T.cls 145), (T.noat 150), F.cm, _, rfl, m.dc, .ref c, rfl, gd, c, _, _, _, _, rfl, s1 _ _ g1, (T.cls 139), (T.noat 141), g4, ?_⟩
      refine LcP.put (n := 1000) nD s1 hD ha (Same.refl _) (by have := (List.getElem?_eq_some_iff.mp e).1; omega) ?_
      show acc ++ [_] = _
      rw [show acc = _ from r, take_snoc e, List.map_append]
      rfl
    · rintro H1 ⟨s1, acc, hD, ha, r⟩
      have r : acc = ((ps.take (ps.map vN).length).map fun q => vN (s.hashes.getD q 0)) := r
      rw [List.length_map, List.take_length] at r
      refine ⟨_, rfl, d, D, v, s.attributeCount, ps.map fun q => s.hashes.getD q 0, rfl, ?_, ?_, hd.same s1, vo, G.ac, fun H2 s2 => ?_⟩
      · rw [hD, r, List.map_map]; rfl
      · rw [List.length_map]; omega
      have s12 := s1.trans s2
      refine ⟨_, rfl, _, rfl, _, rfl, fun x dy nx ndy nxy => ?_⟩
      have nx0 : H x = none := s12.free nx
      refine ⟨x, p, d, dy, _, rfl, upd_same, fun H3 gs on hx g1 g2 g3 => ⟨rfl, ?_⟩⟩
      have s3 : Same H2 H3 := fun b o hb => by
        rw [on.ne b (ne_of_none hb nx), upd_ne (ne_of_none hb nx), upd_ne (ne_of_none hb ndy)]
        exact hb
      have s13 := s12.trans s3
      have h1' := s13 _ _ h1
      have hcl : kc.length < sizeLine := by
        have e1 := congrArg List.length C.keys
        rw [List.length_map, List.length_map] at e1
        have e2 : (live s).length ≤ s.commits.length := by
          unfold live
          have := List.length_filter_le (fun n => (s.commit n).isSome) (List.range s.commits.length)
          rw [List.length_range] at this
          exact this
        exact small (m := 100) (by omega)
      refine ⟨_, rfl, _, _, _, _, _, rfl, h1', (T.cls 145), (T.noat 150), F.cm, _, rfl, m.dc, _, rfl, DPut.k (k := kI s.commits.length) (s13 _ _ h2) hcl, ?_⟩
      have h1'' : (upd H3 m.dc (.dK (putK kc (kI s.commits.length) (.ref x)))) a = some (.ins (cSto K) dx fs) := by rw [upd_ne na]; exact h1'
      refine ⟨_, rfl, _, _, _, _, _, rfl, h1'', (T.cls 145), (T.noat 149), F.cc, _, _, rfl, rfl, dx, fs, h1'', Nat.lt_of_le_of_lt F.len (by decide), ?_⟩
      obtain ⟨S5, f5⟩ := S.addC G s13 h1 h2 nx0 hx g1 g2 g3 hp np hq hd nd (z := .int ((s.commits.length : Int) + 1)) rfl
      obtain ⟨⟨dx5, fs5, q1, F5⟩, _⟩ := id S5
      have hN : (moreC s ps v).commit s.commits.length = some ⟨ps, v⟩ := by rw [moreC_commit, if_pos rfl]
      refine ⟨_, rfl, a, dx5, _, rfl, q1, F5.only ("move_head" : Str) (by decide +kernel), _, rfl, a, _, m, m.co a, s.commits.length, rfl, S5, fun _ h => h, G.br.srt, G.br.len, ⟨_, hN⟩, fun H6 dw nd S6 f6 => ⟨_, rfl, ?_⟩⟩
      refine k H6 dw (f5.al _ nd) ?_ (f5.trans f6)
      rw [ver_of hN] at S6
      exact S6
/-! ### a store is made -/
def startS (ac : Nat) : Store := ⟨ac, [some ⟨[], []⟩], [(0, 0)], [], 0, []⟩
structure Off (a : Addr) (H H' : Hp) : Prop where
  st : ∀ b o, H b = some o → b ≠ a → H' b = some o
  al : ∀ b, H' b = none → H b = none
theorem Off.of {a : Addr} {H H' : Hp} (e : Same H H') : Off a H H' := ⟨fun b o h _ => e b o h, fun _ h => e.free h⟩
theorem Off.trans {a : Addr} {H H1 H2 : Hp} (x : Off a H H1) (y : Off a H1 H2) : Off a H H2 := ⟨fun b o h n => y.st b o (x.st b o h n) n, fun b h => x.al b (y.al b h)⟩
theorem Off.upd {a : Addr} {H : Hp} {o : HO} : Off a H (upd H a o) := ⟨fun b u h n => by rw [upd_ne n]; exact h, fun b h => by
  by_cases e : b = a
  · rw [e, upd_same] at h; cases h
  · rw [upd_ne e] at h; exact h⟩
def spStoInit (K : PySem.W.Frag) : Sp := fun vs H Q _ => ∃ (a dx : Addr) (ac : Nat), vs = [.ref a, vN ac] ∧ H a = some (.ins (cSto K) dx []) ∧ ac ≤ 8 ∧
  ∀ H' m, (∀ Ws : List Addr, (∀ W ∈ Ws, H W ≠ none) → StoreG K H' a (startS ac) m (Ws ++ m.av a)) → StoreAt K H' a (startS ac) m → Off a H H' → (∀ b ∈ m.av a, b = a ∨ H b = none) → Q .non H'
theorem vok_nil (k : Nat) : VOk k [] := ⟨List.Pairwise.nil, fun _ h => (by cases h), Nat.zero_le _⟩
theorem startS_hash (ac : Nat) : (startS ac).hashes.getD 0 0 = comHash [] [] := by
  rw [hash_rec (s := startS ac) (n := 0) (c := ⟨[], []⟩) rfl (fun _ h => by cases h), comHash_eq]
  rfl
theorem sc_Store_init : FnScope ["self", "attribute_count"] ["self", "attribute_count"] (defScope s_Store_init) := ⟨rfl, rfl, rfl, by decide +kernel, rfl, by decide +kernel, by decide +kernel⟩
theorem ok_Store_init (T : Tx K mg) : Ok P w K mg ("Store", some "__init__") ["self", "attribute_count"] 5 (spStoInit K) := by
  refine T.ok (i := 81) (d := d_Store_init) rfl rfl sc_Store_init (fun vs H Q E h => ?_) (fun _ _ _ _ _ _ us hl => match us, hl with | [_, _], _ => rfl) (fun base tb cdv A outer s H vs Q E hr h => ?_)
  · obtain ⟨a, dx, ac, rfl, _⟩ := h
    rfl
  · obtain ⟨a, dx, ac, rfl, ha, h8, k⟩ := h
    have hu := hu_of hr
    refine ⟨_, (pss_cons (ps_fld (pv 0) (pv 1) rfl)
        (pss_cons (ps_fld (pv 0) (pe_disp (pps_cons pe_int (pe_makeO (ok_Commit_init T) tb (T.mkr 140) (T.glo 80) hr rfl (pa_cons (pe_lst pa_nil) (pa_cons pe_dnewK (pa_cons (pe_callO (ok_commit_hash T) tb (T.glo 65) hr rfl (pa_cons (pe_lst pa_nil) (pa_cons pe_dnewK pa_nil))) pa_nil)))) pps_nil) (by rfl) (by rfl) (fun z => by cases z) (by decide)) rfl)
        (pss_cons (ps_fld (pv 0) pe_int rfl)
        (pss_cons (ps_fld (pv 0) (pe_disp (pps_cons pe_int pe_int pps_nil) (by rfl) (by rfl) (fun z => by cases z) (by decide)) rfl)
        (pss_cons (ps_fld (pv 0) pe_int rfl)
        (pss_cons (ps_fld (pv 0) pe_dnewK rfl)
        (pss_one (ps_fld (pv 0) pe_dnewK rfl)))))))), ?_⟩
    refine ⟨_, rfl, _, rfl, a, _, dx, _, rfl, ha, (T.cls 145), (T.noat 147), by show 0 < 1000; decide, ?_⟩
    generalize e1 : upd H a (.ins (cSto K) dx (putF ("attribute_count" : Str) (vN ac) [])) = H1
    have o1 : Off a H H1 := e1 ▸ Off.upd
    have ha1 : H1 a = some (.ins (cSto K) dx (putF ("attribute_count" : Str) (vN ac) [])) := by rw [← e1, upd_same]
    refine fun p np => ⟨by show 0 ≤ sizeLine; decide, fun q1 nq1 q2 nq2 => ⟨by show 0 ≤ sizeLine; decide, fun q3 nq3 q4 nq4 => ?_⟩⟩
    have s1 := same_upd (o := .dK []) np
    have s2 := same_upd (o := .lst []) nq1
    have s3 := same_upd (o := .dK []) nq2
    have s4 := same_upd (o := .lst []) nq3
    have s5 := same_upd (o := .dK []) nq4
    refine ⟨q4, q3, [], 8, [], rfl, s5 _ _ upd_same, by decide, ⟨[], upd_same, VerD.nil⟩, vok_nil 8, Nat.le_refl _, fun H7 s7 x dy nx ndy nxy => ?_⟩
    refine ⟨x, q1, q2, dy, _, rfl, upd_same, fun H8 gs on hx g1 g2 g3 => ⟨rfl, ?_⟩⟩
    have s8 : Same H7 H8 := fun b o hb => by
      rw [on.ne b (ne_of_none hb nx), upd_ne (ne_of_none hb nx), upd_ne (ne_of_none hb ndy)]
      exact hb
    have sp : Same (upd H1 p (.dK [])) H8 := s2.trans (s3.trans (s4.trans (s5.trans (s7.trans s8))))
    have hp8 := sp _ _ upd_same
    have nq1' : (upd H1 p (.dK [])) q1 = none := nq1
    have nq2' : (upd H1 p (.dK [])) q2 = none := s2.free nq2
    have nx' : (upd H1 p (.dK [])) x = none := (s2.trans (s3.trans (s4.trans (s5.trans s7)))).free nx
    have hq1 : H8 q1 = some (.lst []) := (s3.trans (s4.trans (s5.trans (s7.trans s8)))) _ _ upd_same
    have hq2 : H8 q2 = some (.dK []) := (s4.trans (s5.trans (s7.trans s8))) _ _ upd_same
    have q1p : p ≠ q1 := ne_of_none upd_same nq1'
    have q2p : p ≠ q2 := ne_of_none upd_same nq2'
    have xp : p ≠ x := ne_of_none upd_same nx'
    refine ⟨hp8, [(kI 0, .ref x)], rfl, by show 1 ≤ 15; decide, ?_⟩
    have em : mergeK [] [(kI 0, V.ref x)] = [(kI 0, V.ref x)] := rfl
    rw [em]
    generalize e9 : upd H8 p (.dK [(kI 0, .ref x)]) = H9
    have s9 : Same H1 H9 := fun b o hb => by
      have n := ne_of_none hb np
      rw [← e9, upd_ne n]
      exact sp b o (s1 b o hb)
    have hp9 : H9 p = some (.dK [(kI 0, .ref x)]) := by rw [← e9, upd_same]
    have hx9 : H9 x = some (.ins (cCom K) dy gs) := by rw [← e9, upd_ne xp.symm]; exact hx
    have hq19 : H9 q1 = some (.lst []) := by rw [← e9, upd_ne q1p.symm]; exact hq1
    have hq29 : H9 q2 = some (.dK []) := by rw [← e9, upd_ne q2p.symm]; exact hq2
    have f1 : ∀ b, (upd H1 p (.dK [])) b = none → H b = none := fun b h => o1.al b (s1.free h)
    have nap : p ≠ a := fun z => by rw [z, ha1] at np; cases np
    have nax : x ≠ a := fun z => by rw [z] at nx'; have := s1.free nx'; rw [ha1] at this; cases this
    have naq1 : q1 ≠ a := fun z => by rw [z] at nq1'; have := s1.free nq1'; rw [ha1] at this; cases this
    have naq2 : q2 ≠ a := fun z => by rw [z] at nq2'; have := s1.free nq2'; rw [ha1] at this; cases this
    refine ⟨_, rfl, a, _, dx, _, rfl, s9 _ _ ha1, (T.cls 145), (T.noat 150), Nat.lt_of_le_of_lt putF_len1 (by show 1 < 1000; decide), ?_⟩
    generalize ef1 : putF ("commits" : Str) (.ref p) (putF ("attribute_count" : Str) (vN ac) []) = F1
    have l1 : F1.length ≤ 2 := ef1 ▸ Nat.le_trans putF_len1 (Nat.succ_le_succ putF_len1)
    refine ⟨_, rfl, a, _, dx, _, rfl, upd_same, (T.cls 145), (T.noat 149), Nat.lt_of_le_of_lt l1 (by decide), ?_⟩
    generalize ef2 : putF ("commit_count" : Str) (.int 1) F1 = F2
    have l2 : F2.length ≤ 3 := ef2 ▸ Nat.le_trans putF_len1 (Nat.succ_le_succ l1)
    generalize e10 : upd (upd H9 a (.ins (cSto K) dx F1)) a (.ins (cSto K) dx F2) = H10
    have o10 : Off a H9 H10 := e10 ▸ Off.upd.trans Off.upd
    have ha10 : H10 a = some (.ins (cSto K) dx F2) := by rw [← e10, upd_same]
    refine fun db ndb => ⟨upd_same, [(kI 0, .int 0)], rfl, by show 1 ≤ 15; decide, ?_⟩
    rw [show mergeK [] [(kI 0, V.int 0)] = [(kI 0, V.int 0)] from rfl]
    generalize e11 : upd (upd H10 db (.dK [])) db (.dK [(kI 0, .int 0)]) = H11
    have s11 : Same H10 H11 := fun b o hb => by
      have n := ne_of_none hb ndb
      rw [← e11, upd_ne n, upd_ne n]
      exact hb
    have hdb : H11 db = some (.dK [(kI 0, .int 0)]) := by rw [← e11, upd_same]
    refine ⟨_, rfl, a, _, dx, _, rfl, s11 _ _ ha10, (T.cls 145), (T.noat 148), Nat.lt_of_le_of_lt l2 (by decide), ?_⟩
    generalize ef3 : putF ("branches" : Str) (.ref db) F2 = F3
    have l3 : F3.length ≤ 4 := ef3 ▸ Nat.le_trans putF_len1 (Nat.succ_le_succ l2)
    refine ⟨_, rfl, a, _, dx, _, rfl, upd_same, (T.cls 145), (T.noat 151), Nat.lt_of_le_of_lt l3 (by decide), ?_⟩
    generalize ef4 : putF ("current_branch" : Str) (.int 0) F3 = F4
    have l4 : F4.length ≤ 5 := ef4 ▸ Nat.le_trans putF_len1 (Nat.succ_le_succ l3)
    generalize e12 : upd (upd H11 a (.ins (cSto K) dx F3)) a (.ins (cSto K) dx F4) = H12
    have o12 : Off a H11 H12 := e12 ▸ Off.upd.trans Off.upd
    have ha12 : H12 a = some (.ins (cSto K) dx F4) := by rw [← e12, upd_same]
    refine fun dt ndt => ?_
    have s13 := same_upd (o := .dK []) ndt
    refine ⟨_, rfl, a, _, dx, _, rfl, s13 _ _ ha12, (T.cls 145), (T.noat 152), Nat.lt_of_le_of_lt l4 (by decide), ?_⟩
    generalize ef5 : putF ("tags" : Str) (.ref dt) F4 = F5
    have l5 : F5.length ≤ 6 := ef5 ▸ Nat.le_trans putF_len1 (Nat.succ_le_succ l4)
    have o14 : Off a (upd H12 dt (.dK [])) (upd (upd H12 dt (.dK [])) a (.ins (cSto K) dx F5)) := Off.upd
    have ha14 : (upd (upd H12 dt (.dK [])) a (.ins (cSto K) dx F5)) a = some (.ins (cSto K) dx F5) := upd_same
    generalize upd (upd H12 dt (.dK [])) a (.ins (cSto K) dx F5) = H14 at o14 ha14 ⊢
    refine fun dw ndw => ?_
    have s15 := same_upd (o := .dK []) ndw
    refine ⟨_, rfl, a, _, dx, _, rfl, s15 _ _ ha14, (T.cls 145), (T.noat 153), Nat.lt_of_le_of_lt l5 (by decide), ?_⟩
    have o16 : Off a (upd H14 dw (.dK [])) (upd (upd H14 dw (.dK [])) a (.ins (cSto K) dx (putF ("working" : Str) (.ref dw) F5))) := Off.upd
    have ha16 : (upd (upd H14 dw (.dK [])) a (.ins (cSto K) dx (putF ("working" : Str) (.ref dw) F5))) a = some (.ins (cSto K) dx (putF ("working" : Str) (.ref dw) F5)) := upd_same
    generalize upd (upd H14 dw (.dK [])) a (.ins (cSto K) dx (putF ("working" : Str) (.ref dw) F5)) = H16 at o16 ha16 ⊢
    have o9_16 : Off a H9 H16 := o10.trans ((Off.of s11).trans (o12.trans ((Off.of s13).trans (o14.trans ((Off.of s15).trans o16)))))
    have o11_16 : Off a H11 H16 := o12.trans ((Off.of s13).trans (o14.trans ((Off.of s15).trans o16)))
    have o13_16 : Off a (upd H12 dt (.dK [])) H16 := o14.trans ((Off.of s15).trans o16)
    have f9 : ∀ b, H9 b = none → H b = none := fun b h => o1.al b (s9.free h)
    have fdb : H9 db = none := o10.al _ ndb
    have fdt : H9 dt = none := o10.al _ (s11.free (o12.al _ ndt))
    have fdt11 : H11 dt = none := o12.al _ ndt
    have fdw13 : (upd H12 dt (.dK [])) dw = none := o14.al _ ndw
    have fdw11 : H11 dw = none := o12.al _ (s13.free fdw13)
    have fdw : H9 dw = none := o10.al _ (s11.free fdw11)
    have nadb : db ≠ a := fun z => by rw [z, s9 _ _ ha1] at fdb; cases fdb
    have nadt : dt ≠ a := fun z => by rw [z, s9 _ _ ha1] at fdt; cases fdt
    have nadw : dw ≠ a := fun z => by rw [z, s9 _ _ ha1] at fdw; cases fdw
    have fin : ∀ av : List Addr, x ∉ av → q1 ∉ av → q2 ∉ av → StoreG K H16 a (startS ac) ⟨p, db, dt, dw⟩ av := by
      intro av ax aq1 aq2
      refine ⟨⟨dx, _, ha16, ?_⟩, ⟨_, o9_16.st _ _ hp9 nap, ⟨rfl, ?_⟩⟩, ⟨_, o11_16.st _ _ hdb nadb, ?_⟩, ⟨[], o13_16.st _ _ upd_same nadt, ?_⟩, ⟨[], o16.st _ _ upd_same nadw, VerD.nil⟩, ⟨?_, ?_, ?_, ?_, ?_, ?_⟩⟩
      · rw [← ef5, ← ef4, ← ef3, ← ef2, ← ef1]
        have en : ∀ (m : Str), fNames.contains m = false → m ≠ "attribute_count" ∧ m ≠ "commits" ∧ m ≠ "commit_count" ∧ m ≠ "branches" ∧ m ≠ "current_branch" ∧ m ≠ "tags" ∧ m ≠ "working" := fun m hm => ⟨fn_ne hm (by decide +kernel), fn_ne hm (by decide +kernel), fn_ne hm (by decide +kernel), fn_ne hm (by decide +kernel), fn_ne hm (by decide +kernel), fn_ne hm (by decide +kernel), fn_ne hm (by decide +kernel)⟩
        refine ⟨?_, ?_, ?_, ?_, ?_, ?_, ?_, fun m hm => ?_, ?_⟩
        · rw [lookup_putF, if_neg (by decide +kernel), lookup_putF, if_neg (by decide +kernel), lookup_putF, if_neg (by decide +kernel), lookup_putF, if_neg (by decide +kernel), lookup_putF, if_neg (by decide +kernel), lookup_putF, if_neg (by decide +kernel), lookup_putF, if_pos rfl]; rfl
        · rw [lookup_putF, if_neg (by decide +kernel), lookup_putF, if_neg (by decide +kernel), lookup_putF, if_neg (by decide +kernel), lookup_putF, if_neg (by decide +kernel), lookup_putF, if_neg (by decide +kernel), lookup_putF, if_pos rfl]
        · rw [lookup_putF, if_neg (by decide +kernel), lookup_putF, if_neg (by decide +kernel), lookup_putF, if_neg (by decide +kernel), lookup_putF, if_neg (by decide +kernel), lookup_putF, if_pos rfl]; rfl
        · rw [lookup_putF, if_neg (by decide +kernel), lookup_putF, if_neg (by decide +kernel), lookup_putF, if_neg (by decide +kernel), lookup_putF, if_pos rfl]
        · rw [lookup_putF, if_neg (by decide +kernel), lookup_putF, if_neg (by decide +kernel), lookup_putF, if_pos rfl]; rfl
        · rw [lookup_putF, if_neg (by decide +kernel), lookup_putF, if_pos rfl]
        · rw [lookup_putF, if_pos rfl]
        · obtain ⟨n1, n2, n3, n4, n5, n6, n7⟩ := en m hm
          rw [lookup_putF, if_neg n7, lookup_putF, if_neg n6, lookup_putF, if_neg n5, lookup_putF, if_neg n4, lookup_putF, if_neg n3, lookup_putF, if_neg n2, lookup_putF, if_neg n1]
          rfl
        · rw [ef1, ef2, ef3, ef4, ef5]
          exact Nat.le_trans putF_len1 (Nat.succ_le_succ l5)
      · intro n cm hn
        have en : n = 0 := by have := commit_lt hn; simp [startS] at this; exact this
        subst en
        have ec : cm = ⟨[], []⟩ := (Option.some.inj hn).symm
        subst ec
        refine ⟨x, rfl, dy, gs, q1, q2, o9_16.st _ _ hx9 nax, g1, g2, by rw [startS_hash]; exact g3, o9_16.st _ _ hq19 naq1, ⟨[], o9_16.st _ _ hq29 naq2, VerD.nil⟩, ax, aq1, aq2⟩
      · refine ⟨by decide, fun k hk => ⟨0, by simpa using hk⟩, fun n => ?_⟩
        by_cases q : n = 0
        · subst q; rfl
        · rw [valV_neg (fun z => q (kI_inj.mp z).symm)]
          show none = Option.map _ (lookup [(0, 0)] n)
          rw [look_cons, if_neg (fun z => q z.symm)]
          rfl
      · exact ⟨by decide, fun k hk => (by cases hk), fun n => rfl⟩
      · exact fun z => by rw [show p = db from z, fdb] at hp9; cases hp9
      · exact fun z => by rw [show p = dt from z, fdt] at hp9; cases hp9
      · exact fun z => by rw [show p = dw from z, fdw] at hp9; cases hp9
      · exact fun z => by rw [show db = dt from z, fdt11] at hdb; cases hdb
      · exact fun z => by rw [show db = dw from z, fdw11] at hdb; cases hdb
      · exact fun z => by
          have : dt = dw := z
          have h : (upd H12 dt (.dK [])) dt = some (.dK []) := upd_same
          rw [this] at h fdw13
          rw [fdw13] at h
          cases h
    have ax : x ∉ (⟨p, db, dt, dw⟩ : Mu).av a ∧ q1 ∉ (⟨p, db, dt, dw⟩ : Mu).av a ∧ q2 ∉ (⟨p, db, dt, dw⟩ : Mu).av a := by
      refine ⟨?_, ?_, ?_⟩
      · intro z
        have : x = a ∨ x = p ∨ x = db ∨ x = dt ∨ x = dw := by simpa [Mu.av] using z
        rcases this with z | z | z | z | z
        · exact nax z
        · exact xp z.symm
        · rw [z, fdb] at hx9; cases hx9
        · rw [z, fdt] at hx9; cases hx9
        · rw [z, fdw] at hx9; cases hx9
      · intro z
        have : q1 = a ∨ q1 = p ∨ q1 = db ∨ q1 = dt ∨ q1 = dw := by simpa [Mu.av] using z
        rcases this with z | z | z | z | z
        · exact naq1 z
        · exact q1p z.symm
        · rw [z, fdb] at hq19; cases hq19
        · rw [z, fdt] at hq19; cases hq19
        · rw [z, fdw] at hq19; cases hq19
      · intro z
        have : q2 = a ∨ q2 = p ∨ q2 = db ∨ q2 = dt ∨ q2 = dw := by simpa [Mu.av] using z
        rcases this with z | z | z | z | z
        · exact naq2 z
        · exact q2p z.symm
        · rw [z, fdb] at hq29; cases hq29
        · rw [z, fdt] at hq29; cases hq29
        · rw [z, fdw] at hq29; cases hq29
    have f16 : ∀ {b W : Addr}, (upd H1 p (.dK [])) b = none → H W ≠ none → b ≠ W := fun {b W} hb hW z => hW (z ▸ f1 b hb)
    refine k H16 ⟨p, db, dt, dw⟩ (fun Ws hW => fin _ (fun z => (List.mem_append.mp z).elim (fun z => f16 nx' (hW _ z) rfl) ax.1) (fun z => (List.mem_append.mp z).elim (fun z => f16 nq1' (hW _ z) rfl) ax.2.1) (fun z => (List.mem_append.mp z).elim (fun z => f16 nq2' (hW _ z) rfl) ax.2.2)) (fin _ ax.1 ax.2.1 ax.2.2) (o1.trans ((Off.of s9).trans o9_16)) ?_
    · intro b hb
      have : b = a ∨ b = p ∨ b = db ∨ b = dt ∨ b = dw := by simpa [Mu.av] using hb
      rcases this with z | z | z | z | z
      · exact .inl z
      · exact .inr (z ▸ o1.al _ np)
      · exact .inr (z ▸ f9 _ fdb)
      · exact .inr (z ▸ f9 _ fdt)
      · exact .inr (z ▸ f9 _ fdw)
end Pv
end
section
set_option Elab.async false
set_option linter.all false
set_option maxRecDepth 100000
set_option maxHeartbeats 2000000
namespace Pv
open PySem PySem.Spec PyProof.Rows L2 Kvg9
open L2 (Dp DpAll)
variable {P : Program} {w : World} {K : PySem.W.Frag} {mg : Str → Option Value}
theorem ok_head_ver {s : Store} (G : Good s) : VOk s.attributeCount (s.version s.head) := by
  obtain ⟨c, h1, h2⟩ := G.head
  rw [ver_of h2]
  exact (G.com _ _ h2).ver
theorem not_av {H : Hp} {a : Addr} {s : Store} {m : Mu} {p : Addr} (S : StoreAt K H a s m) (h : H p = none) : p ∉ m.av a := StoreG.new_off (H' := H) S h
theorem sc_commit : FnScope ["store", "given"] ["store", "given"] (defScope s_commit) := ⟨rfl, rfl, rfl, by decide +kernel, rfl, by decide +kernel, by decide +kernel⟩
theorem ok_commit (T : Tx K mg) : Ok P w K mg ("commit", none) ["store", "given"] 6 (spRun K g0 (fun _ => True) (fun _ => Operation.commit)) := by
  refine T.ok (i := 11) (d := d_commit) rfl rfl sc_commit (fun vs H Q E h => ?_) (fun _ _ _ _ _ _ us hl => match us, hl with | [_, _], _ => rfl) (fun base tb cdv A outer s H vs Q E hr h => ?_)
  · obtain ⟨a, s, m, g, x, xs, rfl, _⟩ := h
    rfl
  · obtain ⟨a, s, m, g, x, xs, rfl, S, G, tt, hg, rfl, hx, k⟩ := h
    obtain ⟨⟨dx, fs, h1, F⟩, ⟨kc, h2, C⟩, ⟨kb, h3, B⟩, ⟨kt, h4, T'⟩, ⟨kw, h5, D⟩, A⟩ := id S
    obtain ⟨na, nb, nt, nw⟩ := S.ne_a
    have hu := hu_of hr
    refine ⟨_, (pss_cons (ps_if (pt_not (pt_val (pe_methO0 (pv 0) (ok_Store_is_changed T) tb (T.cls 145) (T.meth 157) hr)))
          (pss_one (ps_ret (pe_lst (pa_cons (pe_gint (T.int 109) rfl) pa_nil)))) pss_nil)
        (pss_cons (ps_if (pt_val (pe_methO0 (pv 0) (ok_Store_is_full T) tb (T.cls 145) (T.meth 158) hr))
          (pss_one (ps_ret (pe_lst (pa_cons (pe_gint (T.int 114) rfl) pa_nil)))) pss_nil)
        (pss_one (ps_ret (pe_lst (pa_cons (pe_methO (pv 0) (ok_Store_make_commit T) tb (T.cls 145) (T.meth 161) hr (pa_cons (pe_lst (pa_cons (pe_methO0 (pv 0) (ok_Store_head T) tb (T.cls 145) (T.meth 155) hr) pa_nil)) (pa_cons (pe_fld (pv 0) rfl) pa_nil))) pa_nil)))))), ?_⟩
    have er : s.run .commit = if s.isChanged = false then (s, .error (-6)) else if maxCommits ≤ s.commits.length then (s, .error (-28)) else (s.append [s.head] s.working, .number s.commits.length) := rfl
    dsimp only at k
    refine ⟨_, rfl, a, dx, _, rfl, h1, F.only ("is_changed" : Str) (by decide +kernel), a, s, m, _, rfl, S, G, _, rfl, ?_⟩
    cases hc : s.isChanged with
    | false =>
      refine itT (c := !false) rfl ?_
      rw [if_pos hc] at er
      exact lit_done S tt (by rw [er]) (by rw [er] <;> rfl) rfl k
    | true =>
      refine itF (c := !true) rfl ?_
      rw [if_neg (by rw [hc]; simp)] at er
      refine ⟨_, rfl, a, dx, _, rfl, h1, F.only ("is_full" : Str) (by decide +kernel), a, s, m, _, rfl, S, _, rfl, ?_⟩
      by_cases h40 : 40 ≤ s.commits.length
      · refine itT (decide_eq_true h40) ?_
        rw [if_pos (show maxCommits ≤ _ from h40)] at er
        exact lit_done S tt (by rw [er]) (by rw [er] <;> rfl) rfl k
      · refine itF (decide_eq_false h40) ?_
        rw [if_neg (show ¬ maxCommits ≤ _ from h40)] at er
        obtain ⟨c, hd1, hd2⟩ := G.head
        refine ⟨_, rfl, a, dx, _, rfl, h1, F.only ("make_commit" : Str) (by decide +kernel), _, rfl, a, dx, _, rfl, h1, F.only ("head" : Str) (by decide +kernel), a, s, m, _, rfl, S, G.hd, ?_⟩
        refine ⟨by show 1 ≤ sizeLine; decide, fun p np => ?_⟩
        have s1 := same_upd (o := .lst [V.int (s.head : Nat)]) np
        have h1' := s1 _ _ h1
        refine ⟨_, rfl, _, _, _, _, _, rfl, h1', (T.cls 145), (T.noat 153), F.wk, a, s, m, p, m.dw, [s.head], s.working, rfl, S.same s1, G, by omega, upd_same, not_av S np, by show 1 ≤ 2; decide, fun q hq => ?_, ⟨kw, s1 _ _ h5, D.tup (Tup.of s1)⟩, .inl rfl, G.wk, fun H2 dw nd S2 f2 => ?_⟩
        · have : q = s.head := by simpa using hq
          rw [this, hd2]; rfl
        · exact new_done S tt S2 ((Fr.of_same s1).trans f2) (by rw [er]) (by rw [er] <;> rfl) rfl k
theorem sc_reset_branch : FnScope ["store", "given", "number", "previous"] ["store", "given"] (defScope s_reset_branch) := ⟨rfl, rfl, rfl, by decide +kernel, rfl, by decide +kernel, by decide +kernel⟩
theorem ok_reset_branch (T : Tx K mg) : Ok P w K mg ("reset_branch", none) ["store", "given"] 5 (spRun K g1 (fun _ => True) Operation.resetBranch) := by
  refine T.ok (i := 13) (d := d_reset_branch) rfl rfl sc_reset_branch (fun vs H Q E h => ?_) (fun _ _ _ _ _ _ us hl => match us, hl with | [_, _], _ => rfl) (fun base tb cdv A outer s H vs Q E hr h => ?_)
  · obtain ⟨a, s, m, g, x, xs, rfl, _⟩ := h
    rfl
  · obtain ⟨a, s, m, g, x, xs, rfl, S, G, tt, hg, rfl, hx, k⟩ := h
    obtain ⟨⟨dx, fs, h1, F⟩, ⟨kc, h2, C⟩, ⟨kb, h3, B⟩, ⟨kt, h4, T'⟩, ⟨kw, h5, D⟩, A⟩ := id S
    obtain ⟨na, nb, nt, nw⟩ := S.ne_a
    have hu := hu_of hr
    refine ⟨_, (pss_cons (ps_set (i := 2) sc_reset_branch.nd rfl (by first | exact Or.inl rfl | exact Or.inr rfl) (pe_ix (kIxL (K := K) rfl) (pv 1) pe_int (fun _ _ => rfl)))
        (pss_cons (ps_if (pt_cmp (pc_dnotin hu (pv 2) (pe_fld (pv 0) rfl)))
          (pss_one (ps_ret (pe_lst (pa_cons (pe_gint (T.int 108) rfl) pa_nil)))) pss_nil)
        (pss_cons (ps_if (pt_val (pe_methO0 (pv 0) (ok_Store_is_changed T) tb (T.cls 145) (T.meth 157) hr))
          (pss_one (ps_ret (pe_lst (pa_cons (pe_gint (T.int 111) rfl) pa_nil)))) pss_nil)
        (pss_cons (ps_set (i := 3) sc_reset_branch.nd rfl (by first | exact Or.inl rfl | exact Or.inr rfl) (pe_methO0 (pv 0) (ok_Store_head T) tb (T.cls 145) (T.meth 155) hr))
        (pss_cons (ps_expr (pe_methO (pv 0) (ok_Store_move_head T) tb (T.cls 145) (T.meth 162) hr (pa_cons (pv 2) pa_nil)))
        (pss_one (ps_ret (pe_lst (pa_cons (pv 3) pa_nil))))))))), ?_⟩
    have er : s.run (.resetBranch x) = if s.exists_ x = false then (s, .error (-2)) else if s.isChanged then (s, .error (-16)) else ({ s with branches := assign s.current x s.branches, working := s.version x }, .number s.head) := rfl
    refine ⟨_, rfl, g, _, _, _, rfl, rfl, SqL.of hg, atI_nat (j := 0) rfl, _, rfl, _, rfl, _, _, _, _, _, rfl, h1, (T.cls 145), (T.noat 150), F.cm, m.dc, _, rfl, DGet.k (k := kI x) h2, _, rfl, ?_⟩
    rw [C.isSome]
    cases hc : s.exists_ x with
    | false =>
      rw [show (s.commit x).isSome = false from hc]
      refine itT (c := !false) rfl ?_
      rw [if_pos hc] at er
      exact lit_done S tt (by rw [er]) (by rw [er] <;> rfl) rfl k
    | true =>
      rw [show (s.commit x).isSome = true from hc]
      refine itF (c := !true) rfl ?_
      rw [if_neg (by rw [hc]; simp)] at er
      refine ⟨_, rfl, a, dx, _, rfl, h1, F.only ("is_changed" : Str) (by decide +kernel), a, s, m, _, rfl, S, G, _, rfl, ?_⟩
      cases hch : s.isChanged with
      | true =>
        refine itT rfl ?_
        rw [if_pos hch] at er
        exact lit_done S tt (by rw [er]) (by rw [er] <;> rfl) rfl k
      | false =>
        refine itF rfl ?_
        rw [if_neg (by rw [hch]; simp)] at er
        refine ⟨_, rfl, a, dx, _, rfl, h1, F.only ("head" : Str) (by decide +kernel), a, s, m, _, rfl, S, G.hd, ?_⟩
        refine ⟨_, rfl, a, dx, _, rfl, h1, F.only ("move_head" : Str) (by decide +kernel), _, rfl, a, s, m, _, x, rfl, S, fun _ h => co_av h, G.br.srt, G.br.len, Option.isSome_iff_exists.mp hc, fun H2 dw nd S2 f2 => ⟨_, rfl, ?_⟩⟩
        exact new_done S tt S2 f2 (by rw [er]) (by rw [er] <;> rfl) rfl k
theorem sc_get_feature : FnScope ["store", "given", "number", "feature_id", "version"] ["store", "given"] (defScope s_get_feature) := ⟨rfl, rfl, rfl, by decide +kernel, rfl, by decide +kernel, by decide +kernel⟩
theorem ok_get_feature (T : Tx K mg) : Ok P w K mg ("get_feature", none) ["store", "given"] 3 (spRun K g2 (fun _ => True) (fun x => Operation.getFeature x.1 x.2)) := by
  refine T.ok (i := 62) (d := d_get_feature) rfl rfl sc_get_feature (fun vs H Q E h => ?_) (fun _ _ _ _ _ _ us hl => match us, hl with | [_, _], _ => rfl) (fun base tb cdv A outer s H vs Q E hr h => ?_)
  · obtain ⟨a, s, m, g, x, xs, rfl, _⟩ := h
    rfl
  · obtain ⟨a, s, m, g, x, xs, rfl, S, G, tt, hg, rfl, hx, k⟩ := h
    obtain ⟨⟨dx, fs, h1, F⟩, ⟨kc, h2, C⟩, ⟨kb, h3, B⟩, ⟨kt, h4, T'⟩, ⟨kw, h5, D⟩, A⟩ := id S
    obtain ⟨na, nb, nt, nw⟩ := S.ne_a
    have hu := hu_of hr
    refine ⟨_, (pss_cons (ps_asg (pv 1) (pg_unl rfl (pgs_cons (pg_name (i := 2) sc_get_feature.nd rfl (by first | exact Or.inl rfl | exact Or.inr rfl)) (pgs_cons (pg_name (i := 3) sc_get_feature.nd rfl (by first | exact Or.inl rfl | exact Or.inr rfl)) pgs_nil))))
        (pss_cons (ps_set (i := 4) sc_get_feature.nd rfl (by first | exact Or.inl rfl | exact Or.inr rfl) (pe_methO (pv 0) (ok_Store_version_of T) tb (T.cls 145) (T.meth 160) hr (pa_cons (pv 2) pa_nil)))
        (pss_cons (ps_if (PW.pt (pw_or (pt_cmpR op_isN (pv 4) pe_non (nomark _)) (pw_or1 (pt_cmp (pc_dnotin hu (pv 3) (pv 4))))))
          (pss_one (ps_ret (pe_lst (pa_cons (pe_gint (T.int 108) rfl) pa_nil)))) pss_nil)
        (pss_one (ps_ret (pe_op op_cat (pe_lst (pa_cons pe_int pa_nil)) (pe_callO (ok_written_feature T) tb (T.glo 35) hr rfl (pa_cons (pe_dget hu (pv 4) (pv 3) (fun _ _ => rfl)) pa_nil)))))))), ?_⟩
    obtain ⟨c, n⟩ := x
    dsimp only at hg k
    have er : s.run (.getFeature c n) = match (s.source c).bind fun v => find v n with
      | none => (s, .error (-2))
      | some f => (s, ⟨0, featureValues f⟩) := rfl
    refine ⟨_, rfl, g, _, rfl, SqL.of hg, rfl, _, _, rfl, _, _, rfl, rfl, ?_⟩
    refine ⟨_, rfl, a, dx, _, rfl, h1, F.only ("version_of" : Str) (by decide +kernel), _, rfl, a, s, m, _, c, rfl, S, G, fun hs => ?_, fun d v hs hv => ?_⟩
    · rw [hs] at er
      replace er : s.run (.getFeature c n) = (s, .error (-2)) := er
      refine ⟨_, rfl, rfl, _, rfl, ?_⟩
      exact lit_done S tt (by rw [er]) (by rw [er] <;> rfl) rfl k
    · rw [hs] at er
      replace er : s.run (.getFeature c n) = match find v n with
        | none => (s, .error (-2))
        | some f => (s, ⟨0, featureValues f⟩) := er
      have vo : VOk s.attributeCount v := by
        unfold Store.source at hs
        split at hs
        · cases hs; exact G.wk
        · cases hcm : s.commit c with
          | none => rw [hcm] at hs; cases hs
          | some cm => rw [hcm] at hs; cases hs; exact (G.com _ _ hcm).ver
      obtain ⟨kv, hd, Dv⟩ := hv
      refine ⟨_, rfl, rfl, _, rfl, ?_⟩
      refine ⟨_, rfl, _, rfl, d, _, rfl, DGet.k (k := kI n) hd, _, rfl, ?_⟩
      cases hf : find v n with
      | none =>
        rw [Dv.none hf]
        refine itT rfl ?_
        rw [hf] at er
        exact lit_done S tt (by rw [er]) (by rw [er] <;> rfl) rfl k
      | some f =>
        obtain ⟨z, e1, e2⟩ := Dv.some hf
        rw [e1]
        refine itF rfl ?_
        rw [hf] at er
        have fo := vo.all f (find_mem hf).1
        refine ⟨by show 1 ≤ sizeLine; decide, fun p np => ?_⟩
        have s1 := same_upd (o := .lst [V.int 0]) np
        have gd := DGet.k (k := kI n) (s1 _ _ hd)
        rw [e1] at gd
        refine ⟨_, rfl, _, rfl, d, z, rfl, gd, z, f, rfl, e2.tup (Tup.of s1), by rw [fo.al]; exact G.ac, fo.v2, fun H2 q s2 nq hq => ?_⟩
        have fl := fv_len (f := f) (by rw [fo.al]; exact G.ac) fo.v2
        refine ⟨p, q, _, _, rfl, rfl, s2 _ _ upd_same, hq, small' (m := 100) (by simp; omega), fun r nr => ?_⟩
        refine same_done (l := 0 :: featureValues f) S tt (by rw [er]) (by rw [er] <;> rfl) k ((s1.trans s2).trans (same_upd nr)) ((s1.trans s2).free nr) ?_
        rw [upd_same]
        rfl
theorem src_ok {s : Store} (G : Good s) {c : Nat} {v : Version} (hs : s.source c = some v) : VOk s.attributeCount v := by
  unfold Store.source at hs
  split at hs
  · cases hs; exact G.wk
  · cases hcm : s.commit c with
    | none => rw [hcm] at hs; cases hs
    | some cm => rw [hcm] at hs; cases hs; exact (G.com _ _ hcm).ver
theorem sc_list_features : FnScope ["store", "given", "version"] ["store", "given"] (defScope s_list_features) := ⟨rfl, rfl, rfl, by decide +kernel, rfl, by decide +kernel, by decide +kernel⟩
theorem ok_list_features (T : Tx K mg) : Ok P w K mg ("list_features", none) ["store", "given"] 2 (spRun K g1 (fun _ => True) Operation.listFeatures) := by
  refine T.ok (i := 63) (d := d_list_features) rfl rfl sc_list_features (fun vs H Q E h => ?_) (fun _ _ _ _ _ _ us hl => match us, hl with | [_, _], _ => rfl) (fun base tb cdv A outer s H vs Q E hr h => ?_)
  · obtain ⟨a, s, m, g, x, xs, rfl, _⟩ := h
    rfl
  · obtain ⟨a, s, m, g, x, xs, rfl, S, G, tt, hg, rfl, hx, k⟩ := h
    obtain ⟨⟨dx, fs, h1, F⟩, ⟨kc, h2, C⟩, ⟨kb, h3, B⟩, ⟨kt, h4, T'⟩, ⟨kw, h5, D⟩, A⟩ := id S
    obtain ⟨na, nb, nt, nw⟩ := S.ne_a
    have hu := hu_of hr
    refine ⟨_, (pss_cons (ps_set (i := 2) sc_list_features.nd rfl (by first | exact Or.inl rfl | exact Or.inr rfl) (pe_methO (pv 0) (ok_Store_version_of T) tb (T.cls 145) (T.meth 160) hr (pa_cons (pe_ix (kIxL (K := K) rfl) (pv 1) pe_int (fun _ _ => rfl)) pa_nil)))
        (pss_cons (ps_if (pt_cmpR op_isN (pv 2) pe_non (nomark _))
          (pss_one (ps_ret (pe_lst (pa_cons (pe_gint (T.int 108) rfl) pa_nil)))) pss_nil)
        (pss_one (ps_ret (pe_op op_cat (pe_lst (pa_cons (pe_callB call_lenD (by rfl) (T.free 87) PySem.boot_len (pa_cons (pv 2) pa_nil)) pa_nil)) (pe_callB (call_sortedDI rfl) (by rfl) (T.free 93) (by decide +kernel) (pa_cons (pv 2) pa_nil))))))), ?_⟩
    have er : s.run (.listFeatures x) = match s.source x with
      | none => (s, .error (-2))
      | some v => (s, ⟨(v.length : Nat), v.map fun f => (f.id : Int)⟩) := rfl
    refine ⟨_, rfl, a, dx, _, rfl, h1, F.only ("version_of" : Str) (by decide +kernel), _, rfl, g, _, _, _, rfl, rfl, SqL.of hg, atI_nat (j := 0) rfl, a, s, m, _, x, rfl, S, G, fun hs => ?_, fun d v hs hv => ?_⟩
    · rw [hs] at er
      refine ⟨_, rfl, rfl, _, rfl, ?_⟩
      exact lit_done S tt (by rw [er]) (by rw [er] <;> rfl) rfl k
    · rw [hs] at er
      have vo := src_ok G hs
      obtain ⟨kv, hd, Dv⟩ := hv
      obtain ⟨ks, ek, lk, hsd⟩ := Dv.sorted vo.srt
      have lv := vo.len
      refine ⟨_, rfl, rfl, _, rfl, ?_⟩
      refine ⟨_, rfl, d, kv, rfl, hd, by show 1 ≤ sizeLine; decide, fun p np => ?_⟩
      have s1 := same_upd (o := .lst [V.int (kv.length : Nat)]) np
      refine ⟨_, rfl, d, kv, ks, rfl, .inl (s1 _ _ hd), ek, by omega, fun ys q hp hq nq => ?_⟩
      obtain rfl := hsd ys hp hq
      have s2 := same_upd (o := .lst ((v.map fun f => (f.id : Int)).map V.int)) nq
      refine ⟨p, q, _, _, rfl, rfl, s2 _ _ upd_same, upd_same, small' (m := 100) (by simp; omega), fun r nr => ?_⟩
      refine same_done (l := (v.length : Int) :: v.map fun f => (f.id : Int)) S tt (by rw [er]) (by rw [er] <;> rfl) k ((s1.trans s2).trans (same_upd nr)) ((s1.trans s2).free nr) ?_
      rw [upd_same, Dv.len vo.srt]
      rfl
end Pv
end
section
set_option Elab.async false
set_option linter.all false
set_option maxRecDepth 100000
set_option maxHeartbeats 2000000
namespace Pv
open PySem PySem.Spec PyProof.Rows L2 Kvg9
open L2 (Dp DpAll)
variable {P : Program} {w : World} {K : PySem.W.Frag} {mg : Str → Option Value}
theorem VerD.opt {H : Hp} {kvs : List (Key × V)} {v : Version} (D : VerD K H kvs v) (n : Nat) : Dp K H ((valV kvs (kI n)).getD .non) (dO (find v n)) := by
  have := D.get n
  cases e : valV kvs (kI n) <;> cases q : find v n <;> rw [e, q] at this
  · exact .non
  · exact this.elim
  · exact this.elim
  · exact this
def spChIds (K : PySem.W.Frag) : Sp := fun vs H Q _ => ∃ (a b : Addr) (v w : Version), vs = [.ref a, .ref b] ∧ VerAt K H a v ∧ VerAt K H b w ∧ Srt v ∧ Srt w ∧ v.length ≤ 16 ∧ w.length ≤ 16 ∧ ∀ H' p, Same H H' → H p = none → H' p = some (.lst ((chIds v w).map vN)) → Q (.ref p) H'
theorem ids_sorted {vs : List Version} {S : Int → Bool} (h : ∀ z : Int, S z = true ↔ ∃ v ∈ vs, ∃ n : Nat, z = (n : Int) ∧ (find v n).isSome = true) {ys : List Int} (hs : ys.Pairwise (· < ·)) (hm : ∀ k : Int, k ∈ ys ↔ S k = true) : ys = (idsOf vs).map fun n : Nat => (n : Int) := by
  refine strict_extI hs ?_ fun z => ?_
  · rw [List.pairwise_map]
    exact List.Pairwise.imp (fun {a b} (h : a < b) => by show (a : Int) < (b : Int); omega) (idsOf_strict vs)
  · rw [hm, h, List.mem_map]
    constructor
    · rintro ⟨v, hv, n, rfl, e⟩
      exact ⟨n, mem_idsOf.mpr ⟨v, hv, e⟩, rfl⟩
    · rintro ⟨n, hn, rfl⟩
      obtain ⟨v, hv, e⟩ := mem_idsOf.mp hn
      exact ⟨v, hv, n, rfl, e⟩
/-- a version's keys as ints -/
theorem VerD.ints {H : Hp} {kvs : List (Key × V)} {v : Version} (D : VerD K H kvs v) (s : Srt v) : ∃ ks : List Int, kvs.map (·.1) = ks.map Sum.inl ∧ ks.length = v.length ∧ ∀ z : Int, z ∈ ks ↔ ∃ n : Nat, z = (n : Int) ∧ (find v n).isSome = true := by
  obtain ⟨ks, e1, e2, _⟩ := D.sorted s
  refine ⟨ks, e1, e2, fun z => ?_⟩
  have : z ∈ ks ↔ (Sum.inl z : Key) ∈ kvs.map (·.1) := by
    rw [e1, List.mem_map]
    constructor
    · exact fun h => ⟨z, h, rfl⟩
    · rintro ⟨y, hy, e⟩
      rw [← Sum.inl.inj e]; exact hy
  rw [this, D.keys]
  constructor
  · rintro ⟨n, e, h⟩
    exact ⟨n, Sum.inl.inj e, h⟩
  · rintro ⟨n, rfl, h⟩
    exact ⟨n, rfl, h⟩
theorem sc_changed_ids : FnScope ["first", "second", "every_id", "feature_id"] ["first", "second"] (defScope s_changed_ids) := ⟨rfl, rfl, rfl, by decide +kernel, rfl, by decide +kernel, by decide +kernel⟩
theorem ok_changed_ids (T : Tx K mg) : Ok P w K mg ("changed_ids", none) ["first", "second"] 1 (spChIds K) := by
  refine T.ok (i := 7) (d := d_changed_ids) rfl rfl sc_changed_ids (fun vs H Q E h => ?_) (fun _ _ _ _ _ _ us hl => match us, hl with | [_, _], _ => rfl) (fun base tb cdv A outer s H vs Q E hr h => ?_)
  · obtain ⟨a, b, v, u, rfl, _⟩ := h
    rfl
  · obtain ⟨a, b, v, u, rfl, ⟨ka, ha, Da⟩, ⟨kb, hb, Db⟩, sv, su, lv, lu, k⟩ := h
    obtain ⟨xs, ex, lx, mx⟩ := Da.ints sv
    obtain ⟨ys, ey, ly, my⟩ := Db.ints su
    have il := ids2_len lv lu
    have hu := hu_of hr
    have hu64 := hr.units
    refine ⟨_, (pss_cons (ps_set (i := 2) sc_changed_ids.nd rfl (by first | exact Or.inl rfl | exact Or.inr rfl) (pe_callB (cr_sortedSet rfl) (by rfl) (T.free 93) (by decide +kernel) (pa_cons (pe_op kSetOr (pe_callTy kSetD (by rfl) (T.free 92) (by decide +kernel) (pa_cons (pv 0) pa_nil)) (pe_callTy kSetD (by rfl) (T.free 92) (by decide +kernel) (pa_cons (pv 1) pa_nil))) pa_nil)))
        (pss_one (ps_ret (pe_lc (own := [("feature_id", 3)]) rfl sc_changed_ids.nd (kPiL (K := K) rfl (pv 2)) (blkOk_by (N := ["first", "second", "every_id", "feature_id"]) (sc := defScope s_changed_ids) (by decide +kernel)) (fun _ _ _ _ _ => (pg_name (i := 3) sc_changed_ids.nd rfl (by first | exact Or.inl rfl | exact Or.inr rfl))) (fun _ _ _ _ _ => (pts_one (pt_cmpR (kNeD (K := K) rfl hu64) (pe_dget1 hu (pv 0) (pv 3) ⟨by rfl, by rfl, by rfl, by rfl⟩) (pe_dget1 hu (pv 1) (pv 3) ⟨by rfl, by rfl, by rfl, by rfl⟩) (nomark _)))) (fun _ _ _ _ _ => (pv 3)))))), ?_⟩
    refine ⟨_, rfl, a, ka, xs, rfl, .inl ha, ex, by omega, fun p1 n1 c1 np1 => ?_⟩
    have s1 := same_upd (o := SetO w p1 (fun j => decide (j ∈ xs)) n1) np1
    refine ⟨_, rfl, b, kb, ys, rfl, .inl (s1 _ _ hb), ey, by omega, fun p2 n2 c2 np2 => ?_⟩
    have s2 := same_upd (o := SetO w p2 (fun j => decide (j ∈ ys)) n2) np2
    refine ⟨p1, p2, _, _, n1, n2, rfl, rfl, s2 _ _ upd_same, upd_same, by omega, fun p3 c cc np3 => ?_⟩
    have s3 := same_upd (o := SetO w p3 (fun j => decide (j ∈ xs) || decide (j ∈ ys)) c) np3
    refine ⟨p3, _, c, rfl, upd_same, by omega, fun ns p hs hm hl np => ?_⟩
    have s4 := same_upd (o := .lst (ns.map V.int)) np
    have en : ns = (idsOf [v, u]).map fun n : Nat => (n : Int) := ids_sorted (vs := [v, u]) (fun z => by
      rw [Bool.or_eq_true, decide_eq_true_eq, decide_eq_true_eq, mx, my]
      constructor
      · rintro (⟨n, e, h⟩ | ⟨n, e, h⟩)
        · exact ⟨v, by simp, n, e, h⟩
        · exact ⟨u, by simp, n, e, h⟩
      · rintro ⟨x, hx, n, e, h⟩
        rcases List.mem_cons.mp hx with q | q
        · exact .inl ⟨n, e, q ▸ h⟩
        · rcases List.mem_cons.mp q with q | q
          · exact .inr ⟨n, e, q ▸ h⟩
          · cases q) hs hm
    subst en
    have sA := s1.trans (s2.trans (s3.trans s4))
    refine ⟨_, rfl, p, rfl, ⟨_, SqL.of upd_same⟩, ?_⟩
    refine fun D nD => lc_list (K := K) (a := p) (xs := ((idsOf [v, u]).map fun n : Nat => (n : Int)).map V.int) (LcP _ D (fun i acc _ => acc = (((idsOf [v, u]).take i).filter fun n => !decide (find v n = find u n)).map vN)) (LcP.start nD rfl) (fun i H' _ q => q.1.seq (SqL.of upd_same)) ?_ ?_
    · rintro i x H5 hx ⟨s5, acc, hD, hA, r⟩
      obtain ⟨z, e, rfl⟩ := nth_int hx
      rw [List.getElem?_map] at e
      cases ef : (idsOf [v, u])[i]? with
      | none => rw [ef] at e; cases e
      | some n =>
        rw [ef] at e
        obtain rfl : (n : Int) = z := Option.some.inj e
        have sB := sA.trans s5
        have hi := (List.getElem?_eq_some_iff.mp ef).1
        refine ⟨rfl, ?_⟩
        refine ⟨_, rfl, a, rfl, .inl ⟨ka, .inl (sB _ _ ha)⟩, _, rfl, _, DGet.k (k := kI n) (sB _ _ ha), ?_⟩
        refine ⟨_, rfl, b, rfl, .inl ⟨kb, .inl (sB _ _ hb)⟩, _, rfl, _, DGet.k (k := kI n) (sB _ _ hb), ?_⟩
        refine ⟨_, _, (Da.tup (Tup.of sB)).opt n, (Db.tup (Tup.of sB)).opt n, dO_sh _, dO_sh _, _, rfl, ?_⟩
        rw [dO_eqv (n := n) (fun f h => find_id h) (fun f h => find_id h)]
        by_cases q : find v n = find u n
        · rw [decide_eq_true q]
          refine itF rfl ?_
          refine LcP.skip s5 hD hA (Same.refl _) ?_
          show acc = _
          rw [show acc = _ from r, take_snoc ef, List.filter_append, List.filter_cons, decide_eq_true q]
          simp
        · rw [decide_eq_false q]
          refine itT rfl ?_
          refine ⟨_, rfl, LcP.put (n := 1000) nD s5 hD hA (Same.refl _) (by omega) ?_⟩
          show acc ++ [_] = _
          rw [show acc = _ from r, take_snoc ef, List.filter_append, List.filter_cons, decide_eq_false q]
          simp
    · rintro H5 ⟨s5, acc, hD, hA, r⟩
      refine k H5 D (sA.trans s5) (sA.free nD) ?_
      rw [hD, show acc = _ from r, List.take_of_length_le (by simp)]
      rfl
/-- the parts of a feature that are different -/
def spParts (K : PySem.W.Frag) : Sp := fun vs H Q _ => ∃ x y f g, vs = [x, y] ∧ Fea K H x f ∧ Fea K H y g ∧ f.attributes.length = g.attributes.length ∧ f.attributes.length ≤ 8 ∧ ∀ H', Same H H' → Q (vN (changedParts f g)) H'
theorem sc_changed_parts : FnScope ["before", "after", "parts", "index", "value"] ["before", "after"] (defScope s_changed_parts) := ⟨rfl, rfl, rfl, by decide +kernel, rfl, by decide +kernel, by decide +kernel⟩
theorem ok_changed_parts (T : Tx K mg) : Ok P w K mg ("changed_parts", none) ["before", "after"] 1 (spParts K) := by
  refine T.ok (i := 10) (d := d_changed_parts) rfl rfl sc_changed_parts (fun vs H Q E h => ?_) (fun _ _ _ _ _ _ us hl => match us, hl with | [_, _], _ => rfl) (fun base tb cdv A outer s H vs Q E hr h => ?_)
  · obtain ⟨x, y, f, g, rfl, _⟩ := h
    rfl
  · obtain ⟨x, y, f, g, rfl, hf, hg, el, l8, k⟩ := h
    obtain ⟨a, p, q, us, rfl, t1, t2, t3, t4⟩ := Fea.parts hf
    obtain ⟨b, p', q', us', rfl, t1', t2', t3', t4'⟩ := Fea.parts hg
    rw [changedParts_eq el] at k
    have hu := hu_of hr
    have hu64 := hr.units
    refine ⟨_, (pss_cons (ps_set (i := 2) sc_changed_parts.nd rfl (by first | exact Or.inl rfl | exact Or.inr rfl) pe_int)
        (pss_cons (ps_for PassesOwn.never rfl (kEnumT (K := K) rfl (by rfl) (T.free 86) (pa_cons (pe_ix (kIxT (K := K) rfl) (pv 0) pe_int (fun _ _ => rfl)) pa_nil)) (pg_tup rfl (pgs_cons (pg_name (i := 3) sc_changed_parts.nd rfl (by first | exact Or.inl rfl | exact Or.inr rfl)) (pgs_cons (pg_name (i := 4) sc_changed_parts.nd rfl (by first | exact Or.inl rfl | exact Or.inr rfl)) pgs_nil)))
          (pss_one (ps_if (pt_cmpR op_ne (pv 4) (pe_ix (kIxT (K := K) rfl) (pe_ix (kIxT (K := K) rfl) (pv 1) pe_int (fun _ _ => rfl)) (pv 3) (fun _ _ => rfl)) (nomark _))
          (pss_one (ps_aug (i := 2) sc_changed_parts.nd rfl (by first | exact Or.inl rfl | exact Or.inr rfl) (pe_op op_shl pe_int (pv 3)) ip_add)) pss_nil)))
        (pss_cons (ps_if (pt_cmpR (kNeD (K := K) rfl hu64) (pe_ix (kIxT (K := K) rfl) (pv 0) pe_int (fun _ _ => rfl)) (pe_ix (kIxT (K := K) rfl) (pv 1) pe_int (fun _ _ => rfl)) (nomark _))
          (pss_one (ps_aug (i := 2) sc_changed_parts.nd rfl (by first | exact Or.inl rfl | exact Or.inr rfl) (pe_gint (T.int 120) rfl) ip_add)) pss_nil)
        (pss_one (ps_ret (pv 2)))))), ?_⟩
    refine ⟨_, rfl, a, _, _, _, rfl, rfl, t1, atI_nat (j := 0) rfl, p, _, rfl, t2, ?_⟩
    refine for_any (n := f.attributes.length) (fun i σ H1 => ∃ v4 v5 : Option V, σ = [some (.ref a), some (.ref b), some (vN (partsUp f g i)), v4, v5] ∧ Same H H1) ⟨none, none, rfl, Same.refl H⟩ ?_ ?_ ?_ ?_
    · rintro i σ H1 hi ⟨_, _, _, s⟩
      exact ⟨_, _, t2.same s, by rw [List.getElem?_map, List.getElem?_eq_getElem hi]; rfl⟩
    · rintro σ H1 ⟨_, _, _, s⟩
      exact ⟨_, t2.same s, by rw [List.length_map]; exact Nat.le_refl _⟩
    · rintro i x σ H1 H1' hi ⟨v4, v5, rfl, s⟩ ⟨T, z, rfl, nT, rfl, hz⟩
      have hz := hz _ (t2.same s)
      obtain ⟨m, e, rfl⟩ := nth_int hz
      have sT := same_upd (o := .tup [.int (i : Nat), V.int m]) nT
      obtain ⟨m', e'⟩ : ∃ m', g.attributes[i]? = some m' := ⟨_, List.getElem?_eq_getElem (by omega)⟩
      refine ⟨T, _, rfl, SqT.of upd_same, rfl, _, _, rfl, _, _, rfl, rfl, ?_⟩
      refine ⟨_, rfl, _, rfl, b, _, _, _, rfl, rfl, t1'.same (s.trans sT), atI_nat (j := 0) rfl, _, rfl, p', _, _, _, rfl, rfl, t2'.same (s.trans sT), atI_nat (j := i) (by rw [List.getElem?_map, e']; rfl), rfl, _, rfl, ?_⟩
      by_cases q : f.attributes[i]? = g.attributes[i]?
      · rw [e, e'] at q
        refine itF (by rw [Option.some.inj q]; simp) ?_
        refine ⟨some (.int (i : Nat)), some (.int m), ?_, s.trans sT⟩
        rw [partsUp_succ, e, e', if_pos q]
        rfl
      · rw [e, e'] at q
        refine itT (by simp; exact fun z => q (by rw [z])) ?_
        refine ⟨_, rfl, _, rfl, _, _, rfl, rfl, ⟨by omega, by omega, by decide⟩, _, _, rfl, rfl, ?_⟩
        refine ⟨some (.int (i : Nat)), some (.int m), ?_, s.trans sT⟩
        rw [partsUp_succ, e, e', if_neg q]
        show [_, _, some (V.int _), _, _] = [_, _, some (V.int _), _, _]
        rw [Int.one_mul, Int.toNat_natCast, Int.natCast_add, PySem.W.kbt_cast]
    · rintro σ H1 ⟨v4, v5, rfl, s⟩
      refine ⟨_, rfl, a, _, _, _, rfl, rfl, t1.same s, atI_nat (j := 1) rfl, _, rfl, b, _, _, _, rfl, rfl, t1'.same s, atI_nat (j := 1) rfl, ?_⟩
      refine ⟨.tuple (f.vertices.map dV), .tuple (g.vertices.map dV), .tup (t3.same s) (DpAllT.tup (Tup.of s) _ _ (vert_noL _) t4), .tup (t3'.same s) (DpAllT.tup (Tup.of s) _ _ (vert_noL _) t4'), enc_verts.sh _, enc_verts.sh _, _, rfl, ?_⟩
      rw [show PyData.eqv (.tuple (f.vertices.map dV)) (.tuple (g.vertices.map dV)) = decide (f.vertices = g.vertices) from enc_verts.eqd _ _]
      by_cases q : f.vertices = g.vertices
      · rw [decide_eq_true q]
        rw [if_pos q] at k
        refine itF rfl ?_
        exact ⟨_, rfl, k H1 s⟩
      · rw [decide_eq_false q]
        rw [if_neg q] at k
        refine itT rfl ?_
        exact ⟨_, rfl, _, _, rfl, rfl, _, rfl, k H1 s⟩
theorem dp_non {H : Hp} {x : V} (h : Dp K H x (dO none)) : x = .non := by cases h; rfl
theorem dp_some {H : Hp} {x : V} {f : Feature} (h : Dp K H x (dO (some f))) : ∃ a, x = .ref a := by
  obtain ⟨a, _, e, _⟩ := dp_tup h
  exact ⟨a, e⟩
def spChOf (K : PySem.W.Frag) : Sp := fun vs H Q _ => ∃ (n : Nat) (x y : V) (o1 o2 : Option Feature) (ac : Nat), vs = [vN n, x, y] ∧ Dp K H x (dO o1) ∧ Dp K H y (dO o2) ∧ (∀ f, o1 = some f → f.attributes.length = ac) ∧ (∀ f, o2 = some f → f.attributes.length = ac) ∧ ac ≤ 8 ∧
  ∀ H' p, Same H H' → SqT K H' p ((chRow n o1 o2).map V.int) → Q (.ref p) H'
theorem sc_change_of : FnScope ["feature_id", "before", "after"] ["feature_id", "before", "after"] (defScope s_change_of) := ⟨rfl, rfl, rfl, by decide +kernel, rfl, by decide +kernel, by decide +kernel⟩
theorem ok_change_of (T : Tx K mg) : Ok P w K mg ("change_of", none) ["feature_id", "before", "after"] 2 (spChOf K) := by
  refine T.ok (i := 9) (d := d_change_of) rfl rfl sc_change_of (fun vs H Q E h => ?_) (fun _ _ _ _ _ _ us hl => match us, hl with | [_, _, _], _ => rfl) (fun base tb cdv A outer s H vs Q E hr h => ?_)
  · obtain ⟨n, x, y, o1, o2, ac, rfl, _⟩ := h
    rfl
  · obtain ⟨n, x, y, o1, o2, ac, rfl, h1, h2, a1, a2, h8, k⟩ := h
    have hu := hu_of hr
    refine ⟨_, (pss_cons (ps_if (pt_cmpR op_isN (pv 1) pe_non (nomark _))
          (pss_one (ps_ret (pe_tup (pa_cons (pv 0) (pa_cons (pe_gint (T.int 117) rfl) (pa_cons pe_int pa_nil)))))) pss_nil)
        (pss_cons (ps_if (pt_cmpR op_isN (pv 2) pe_non (nomark _))
          (pss_one (ps_ret (pe_tup (pa_cons (pv 0) (pa_cons (pe_gint (T.int 118) rfl) (pa_cons pe_int pa_nil)))))) pss_nil)
        (pss_one (ps_ret (pe_tup (pa_cons (pv 0) (pa_cons (pe_gint (T.int 119) rfl) (pa_cons (pe_callO (ok_changed_parts T) tb (T.glo 10) hr rfl (pa_cons (pv 1) (pa_cons (pv 2) pa_nil))) pa_nil)))))))), ?_⟩
    cases o1 with
    | none =>
      obtain rfl := dp_non h1
      refine ⟨_, rfl, rfl, _, rfl, ?_⟩
      refine itT rfl ?_
      refine ⟨_, rfl, by show 3 ≤ sizeLine; decide, fun p np => ?_⟩
      exact k _ p (same_upd np) (SqT.of upd_same)
    | some f =>
      obtain ⟨a, rfl⟩ := dp_some h1
      refine ⟨_, rfl, rfl, _, rfl, ?_⟩
      refine itF rfl ?_
      cases o2 with
      | none =>
        obtain rfl := dp_non h2
        refine ⟨_, rfl, rfl, _, rfl, ?_⟩
        refine itT rfl ?_
        refine ⟨_, rfl, by show 3 ≤ sizeLine; decide, fun p np => ?_⟩
        exact k _ p (same_upd np) (SqT.of upd_same)
      | some g =>
        obtain ⟨b, rfl⟩ := dp_some h2
        refine ⟨_, rfl, rfl, _, rfl, ?_⟩
        refine itF rfl ?_
        refine ⟨_, rfl, _, rfl, _, rfl, _, _, f, g, rfl, h1, h2, by rw [a1 f rfl, a2 g rfl], by rw [a1 f rfl]; exact h8, fun H1 s1 => ⟨by show 3 ≤ sizeLine; decide, fun p np => ?_⟩⟩
        exact k _ p (s1.trans (same_upd np)) (SqT.of upd_same)
def chRows (v u : Version) : List (List Int) := (chIds v u).map fun n => chRow n (find v n) (find u n)
theorem chRow_len (n : Nat) (o1 o2 : Option Feature) : (chRow n o1 o2).length = 3 := by
  cases o1 with
  | none => rfl
  | some f => cases o2 <;> rfl
def spChanges (K : PySem.W.Frag) : Sp := fun vs H Q _ => ∃ (a b : Addr) (v u : Version) (ac : Nat), vs = [.ref a, .ref b] ∧ VerAt K H a v ∧ VerAt K H b u ∧ VOk ac v ∧ VOk ac u ∧ ac ≤ 8 ∧
  ∀ H' p xs, Same H H' → H p = none → H' p = some (.lst xs) → Rows K H' xs (chRows v u) → Q (.ref p) H'
theorem chIds_len {v u : Version} (h1 : v.length ≤ 16) (h2 : u.length ≤ 16) : (chIds v u).length ≤ 32 := Nat.le_trans (List.length_filter_le _ _) (ids2_len h1 h2)
theorem sc_changes : FnScope ["first", "second", "ids", "feature_id"] ["first", "second"] (defScope s_changes) := ⟨rfl, rfl, rfl, by decide +kernel, rfl, by decide +kernel, by decide +kernel⟩
theorem ok_changes (T : Tx K mg) : Ok P w K mg ("changes", none) ["first", "second"] 3 (spChanges K) := by
  refine T.ok (i := 8) (d := d_changes) rfl rfl sc_changes (fun vs H Q E h => ?_) (fun _ _ _ _ _ _ us hl => match us, hl with | [_, _], _ => rfl) (fun base tb cdv A outer s H vs Q E hr h => ?_)
  · obtain ⟨a, b, v, u, ac, rfl, _⟩ := h
    rfl
  · obtain ⟨a, b, v, u, ac, rfl, ha, hb, ov, ou, h8, k⟩ := h
    have cl := chIds_len ov.len ou.len
    have hu := hu_of hr
    refine ⟨_, (pss_cons (ps_set (i := 2) sc_changes.nd rfl (by first | exact Or.inl rfl | exact Or.inr rfl) (pe_callO (ok_changed_ids T) tb (T.glo 7) hr rfl (pa_cons (pv 0) (pa_cons (pv 1) pa_nil))))
        (pss_one (ps_ret (pe_lc (own := [("feature_id", 3)]) rfl sc_changes.nd (kPiL (K := K) rfl (pv 2)) (blkOk_by (N := ["first", "second", "ids", "feature_id"]) (sc := defScope s_changes) (by decide +kernel)) (fun _ _ _ _ _ => (pg_name (i := 3) sc_changes.nd rfl (by first | exact Or.inl rfl | exact Or.inr rfl))) (fun _ _ _ _ _ => pts_nil) (fun _ _ _ _ _ => (pe_callO (ok_change_of T) tb (T.glo 9) hr rfl (pa_cons (pv 3) (pa_cons (pe_dget1 hu (pv 0) (pv 3) ⟨by rfl, by rfl, by rfl, by rfl⟩) (pa_cons (pe_dget1 hu (pv 1) (pv 3) ⟨by rfl, by rfl, by rfl, by rfl⟩) pa_nil))))))))), ?_⟩
    refine ⟨_, rfl, _, rfl, a, b, v, u, rfl, ha, hb, ov.srt, ou.srt, ov.len, ou.len, fun H1 p s1 np hp => ?_⟩
    refine ⟨_, rfl, p, rfl, ⟨_, SqL.of hp⟩, fun D nD => lc_list (K := K) (a := p) (xs := (chIds v u).map vN) (LcP H1 D (RD K ((chRows v u).map dR))) (LcP.start nD .nil) (fun i H' _ q => q.1.seq (SqL.of hp)) ?_ ?_⟩
    · rintro i x H2 hx ⟨s2, acc, hD, hA, r⟩
      obtain ⟨n, e, rfl⟩ := nth_map hx
      have sA := s1.trans s2
      obtain ⟨ka, qa, Da⟩ := ha.same sA
      obtain ⟨kb, qb, Db⟩ := hb.same sA
      have hi := (List.getElem?_eq_some_iff.mp e).1
      refine ⟨rfl, ?_⟩
      refine ⟨_, rfl, _, rfl, a, rfl, .inl ⟨ka, .inl qa⟩, _, rfl, _, DGet.k (k := kI n) qa, ?_⟩
      refine ⟨_, rfl, b, rfl, .inl ⟨kb, .inl qb⟩, _, rfl, _, DGet.k (k := kI n) qb, ?_⟩
      refine ⟨n, _, _, find v n, find u n, ac, rfl, Da.opt n, Db.opt n, fun f hf => (ov.all f (find_mem hf).1).al, fun f hf => (ou.all f (find_mem hf).1).al, h8, fun H3 q s3 tq => ?_⟩
      refine LcP.put (n := 1000) nD s2 hD hA s3 (by omega) ?_
      refine RD.next (rows_noL _) r ((Tup.of s3).trans (tup_upd_lst (s3 _ _ hD))) (d := dR (chRow n (find v n) (find u n))) (by unfold chRows; rw [List.getElem?_map, List.getElem?_map, e]; rfl) ?_
      refine Dp.tup (L2.SqT.tup (tup_upd_lst (s3 _ _ hD)) tq) (dp_ints' _)
    · rintro H2 ⟨s2, acc, hD, hA, r⟩
      refine k H2 D acc (s1.trans s2) (s1.free nD) hD ?_
      have r : DpAll K H2 acc (((chRows v u).map dR).take ((chIds v u).map vN).length) := r
      rw [List.take_of_length_le (by simp [chRows])] at r
      exact r
theorem rows3 {v u : Version} : ∀ r ∈ chRows v u, r.length ≤ 10 := fun r hr => by
  obtain ⟨n, _, rfl⟩ := List.mem_map.mp hr
  rw [chRow_len]; decide
theorem ch_wrote (v u : Version) : Kvg9Neutral.resultRow (changesResult (changesBetween v u)) = wrote (chRows v u) := by
  rw [changes_row, changes_rows, changes_len]
  unfold wrote chRows
  rw [List.length_map]
theorem sc_diff : FnScope ["store", "given", "first", "second"] ["store", "given"] (defScope s_diff) := ⟨rfl, rfl, rfl, by decide +kernel, rfl, by decide +kernel, by decide +kernel⟩
theorem ok_diff (T : Tx K mg) : Ok P w K mg ("diff", none) ["store", "given"] 4 (spRun K g2 (fun _ => True) (fun x => Operation.diff x.1 x.2)) := by
  refine T.ok (i := 22) (d := d_diff) rfl rfl sc_diff (fun vs H Q E h => ?_) (fun _ _ _ _ _ _ us hl => match us, hl with | [_, _], _ => rfl) (fun base tb cdv A outer s H vs Q E hr h => ?_)
  · obtain ⟨a, s, m, g, x, xs, rfl, _⟩ := h
    rfl
  · obtain ⟨a, s, m, g, x, xs, rfl, S, G, tt, hg, rfl, hx, k⟩ := h
    obtain ⟨⟨dx, fs, h1, F⟩, ⟨kc, h2, C⟩, ⟨kb, h3, B⟩, ⟨kt, h4, T'⟩, ⟨kw, h5, D⟩, A⟩ := id S
    obtain ⟨na, nb, nt, nw⟩ := S.ne_a
    have hu := hu_of hr
    refine ⟨_, (pss_cons (ps_set (i := 2) sc_diff.nd rfl (by first | exact Or.inl rfl | exact Or.inr rfl) (pe_methO (pv 0) (ok_Store_version_of T) tb (T.cls 145) (T.meth 160) hr (pa_cons (pe_ix (kIxL (K := K) rfl) (pv 1) pe_int (fun _ _ => rfl)) pa_nil)))
        (pss_cons (ps_set (i := 3) sc_diff.nd rfl (by first | exact Or.inl rfl | exact Or.inr rfl) (pe_methO (pv 0) (ok_Store_version_of T) tb (T.cls 145) (T.meth 160) hr (pa_cons (pe_ix (kIxL (K := K) rfl) (pv 1) pe_int (fun _ _ => rfl)) pa_nil)))
        (pss_cons (ps_if (PW.pt (pw_or (pt_cmpR op_isN (pv 2) pe_non (nomark _)) (pw_or1 (pt_cmpR op_isN (pv 3) pe_non (nomark _)))))
          (pss_one (ps_ret (pe_lst (pa_cons (pe_gint (T.int 108) rfl) pa_nil)))) pss_nil)
        (pss_one (ps_ret (pe_callO (ok_counted T) tb (T.glo 21) hr rfl (pa_cons (pe_callO (ok_changes T) tb (T.glo 8) hr rfl (pa_cons (pv 2) (pa_cons (pv 3) pa_nil))) pa_nil))))))), ?_⟩
    obtain ⟨c, d⟩ := x
    dsimp only at hg k
    have er : s.run (.diff c d) = match s.source c, s.source d with
      | some v, some w => (s, changesResult (changesBetween v w))
      | _, _ => (s, .error (-2)) := rfl
    refine ⟨_, rfl, a, dx, _, rfl, h1, F.only ("version_of" : Str) (by decide +kernel), _, rfl, g, _, _, _, rfl, rfl, SqL.of hg, atI_nat (j := 0) rfl, a, s, m, _, c, rfl, S, G, fun hs => ?_, fun d1 v hs hv => ?_⟩
    · refine ⟨_, rfl, a, dx, _, rfl, h1, F.only ("version_of" : Str) (by decide +kernel), _, rfl, g, _, _, _, rfl, rfl, SqL.of hg, atI_nat (j := 1) rfl, a, s, m, _, d, rfl, S, G, fun hs2 => ?_, fun d2 v2 hs2 hv2 => ?_⟩
      · rw [hs, hs2] at er
        refine ⟨_, rfl, rfl, _, rfl, ?_⟩
        exact lit_done S tt (by rw [er]) (by rw [er] <;> rfl) rfl k
      · rw [hs, hs2] at er
        refine ⟨_, rfl, rfl, _, rfl, ?_⟩
        exact lit_done S tt (by rw [er]) (by rw [er] <;> rfl) rfl k
    · refine ⟨_, rfl, a, dx, _, rfl, h1, F.only ("version_of" : Str) (by decide +kernel), _, rfl, g, _, _, _, rfl, rfl, SqL.of hg, atI_nat (j := 1) rfl, a, s, m, _, d, rfl, S, G, fun hs2 => ?_, fun d2 v2 hs2 hv2 => ?_⟩
      · rw [hs, hs2] at er
        refine ⟨_, rfl, rfl, _, rfl, ?_⟩
        refine ⟨_, rfl, rfl, _, rfl, ?_⟩
        exact lit_done S tt (by rw [er]) (by rw [er] <;> rfl) rfl k
      · rw [hs, hs2] at er
        replace er : s.run (.diff c d) = (s, changesResult (changesBetween v v2)) := er
        refine ⟨_, rfl, rfl, _, rfl, ?_⟩
        refine ⟨_, rfl, rfl, _, rfl, ?_⟩
        refine ⟨_, rfl, _, rfl, d1, d2, v, v2, s.attributeCount, rfl, hv, hv2, src_ok G hs, src_ok G hs2, G.ac, fun H1 p xs s1 np hp hR => ?_⟩
        have cl := chIds_len (src_ok G hs).len (src_ok G hs2).len
        refine ⟨p, xs, chRows v v2, rfl, .inl (SqL.of hp), hR, by unfold chRows; rw [List.length_map]; omega, rows3, fun H2 q s2 nq hq => ?_⟩
        exact same_done (l := wrote (chRows v v2)) S tt (by rw [er]) (by rw [er, ch_wrote]) k (s1.trans s2) (s1.free nq) hq
theorem head_src {s : Store} (G : Good s) : VOk s.attributeCount (s.version s.head) := ok_head_ver G
theorem sc_working_diff : FnScope ["store", "given"] ["store", "given"] (defScope s_working_diff) := ⟨rfl, rfl, rfl, by decide +kernel, rfl, by decide +kernel, by decide +kernel⟩
theorem ok_working_diff (T : Tx K mg) : Ok P w K mg ("working_diff", none) ["store", "given"] 4 (spRun K g0 (fun _ => True) (fun _ => Operation.workingDiff)) := by
  refine T.ok (i := 23) (d := d_working_diff) rfl rfl sc_working_diff (fun vs H Q E h => ?_) (fun _ _ _ _ _ _ us hl => match us, hl with | [_, _], _ => rfl) (fun base tb cdv A outer s H vs Q E hr h => ?_)
  · obtain ⟨a, s, m, g, x, xs, rfl, _⟩ := h
    rfl
  · obtain ⟨a, s, m, g, x, xs, rfl, S, G, tt, hg, rfl, hx, k⟩ := h
    obtain ⟨⟨dx, fs, h1, F⟩, ⟨kc, h2, C⟩, ⟨kb, h3, B⟩, ⟨kt, h4, T'⟩, ⟨kw, h5, D⟩, A⟩ := id S
    obtain ⟨na, nb, nt, nw⟩ := S.ne_a
    have hu := hu_of hr
    refine ⟨_, (pss_one (ps_ret (pe_callO (ok_counted T) tb (T.glo 21) hr rfl (pa_cons (pe_callO (ok_changes T) tb (T.glo 8) hr rfl (pa_cons (pe_methO0 (pv 0) (ok_Store_head_version T) tb (T.cls 145) (T.meth 156) hr) (pa_cons (pe_fld (pv 0) rfl) pa_nil))) pa_nil)))), ?_⟩
    have er : s.run .workingDiff = (s, changesResult (changesBetween (s.version s.head) s.working)) := rfl
    dsimp only at k
    refine ⟨_, rfl, a, dx, _, rfl, h1, F.only ("head_version" : Str) (by decide +kernel), a, s, m, _, rfl, S, G.hd, fun d hd _ => ?_⟩
    refine ⟨_, rfl, _, _, _, _, _, rfl, h1, (T.cls 145), (T.noat 153), F.wk, d, m.dw, _, s.working, s.attributeCount, rfl, hd, ⟨kw, h5, D⟩, ok_head_ver G, G.wk, G.ac, fun H1 p xs s1 np hp hR => ?_⟩
    have cl := chIds_len (ok_head_ver G).len G.wk.len
    refine ⟨p, xs, chRows (s.version s.head) s.working, rfl, .inl (SqL.of hp), hR, by unfold chRows; rw [List.length_map]; omega, rows3, fun H2 q s2 nq hq => ?_⟩
    exact same_done (l := wrote (chRows (s.version s.head) s.working)) S tt (by rw [er]) (by rw [er, ch_wrote]) k (s1.trans s2) (s1.free nq) hq
theorem sc_discard : FnScope ["store", "given", "lost"] ["store", "given"] (defScope s_discard) := ⟨rfl, rfl, rfl, by decide +kernel, rfl, by decide +kernel, by decide +kernel⟩
theorem ok_discard (T : Tx K mg) : Ok P w K mg ("discard", none) ["store", "given"] 4 (spRun K g0 (fun _ => True) (fun _ => Operation.discard)) := by
  refine T.ok (i := 12) (d := d_discard) rfl rfl sc_discard (fun vs H Q E h => ?_) (fun _ _ _ _ _ _ us hl => match us, hl with | [_, _], _ => rfl) (fun base tb cdv A outer s H vs Q E hr h => ?_)
  · obtain ⟨a, s, m, g, x, xs, rfl, _⟩ := h
    rfl
  · obtain ⟨a, s, m, g, x, xs, rfl, S, G, tt, hg, rfl, hx, k⟩ := h
    obtain ⟨⟨dx, fs, h1, F⟩, ⟨kc, h2, C⟩, ⟨kb, h3, B⟩, ⟨kt, h4, T'⟩, ⟨kw, h5, D⟩, A⟩ := id S
    obtain ⟨na, nb, nt, nw⟩ := S.ne_a
    have hu := hu_of hr
    refine ⟨_, (pss_cons (ps_set (i := 2) sc_discard.nd rfl (by first | exact Or.inl rfl | exact Or.inr rfl) (pe_callO (ok_changed_ids T) tb (T.glo 7) hr rfl (pa_cons (pe_methO0 (pv 0) (ok_Store_head_version T) tb (T.cls 145) (T.meth 156) hr) (pa_cons (pe_fld (pv 0) rfl) pa_nil))))
        (pss_cons (ps_expr (pe_methO0 (pv 0) (ok_Store_take_head_version T) tb (T.cls 145) (T.meth 163) hr))
        (pss_one (ps_ret (pe_lst (pa_cons (pe_callB (kLen (K := K) rfl) (by rfl) (T.free 87) PySem.boot_len (pa_cons (pv 2) pa_nil)) pa_nil)))))), ?_⟩
    have er : s.run .discard = ({ s with working := s.version s.head }, .number (changesBetween (s.version s.head) s.working).length) := rfl
    dsimp only at k
    refine ⟨_, rfl, a, dx, _, rfl, h1, F.only ("head_version" : Str) (by decide +kernel), a, s, m, _, rfl, S, G.hd, fun d hd _ => ?_⟩
    refine ⟨_, rfl, _, _, _, _, _, rfl, h1, (T.cls 145), (T.noat 153), F.wk, d, m.dw, _, s.working, rfl, hd, ⟨kw, h5, D⟩, (ok_head_ver G).srt, G.wk.srt, (ok_head_ver G).len, G.wk.len, fun H1 p s1 np hp => ?_⟩
    have S1 := S.same s1
    refine ⟨_, rfl, a, dx, _, rfl, s1 _ _ h1, F.only ("take_head_version" : Str) (by decide +kernel), a, s, m, _, rfl, S1, fun _ h => co_av h, G.hd, fun H2 dw nd S2 f2 => ?_⟩
    have hp2 : H2 p = some (.lst ((chIds (s.version s.head) s.working).map vN)) := f2.st _ _ hp (not_av S np)
    refine ⟨_, rfl, p, _, rfl, .inl (SqL.of hp2), ?_⟩
    refine new_done S tt S2 ((Fr.of_same s1).trans f2) (by rw [er]) (by rw [er] <;> rfl) ?_ k
    rw [List.length_map, changes_len]
    rfl
end Pv
end
section
set_option Elab.async false
set_option linter.all false
set_option maxRecDepth 100000
set_option maxHeartbeats 2000000
namespace Pv
open PySem PySem.Spec PyProof.Rows L2 Kvg9
open L2 (Dp DpAll)
variable {P : Program} {w : World} {K : PySem.W.Frag} {mg : Str → Option Value}
def spAnc (K : PySem.W.Frag) : Sp := fun vs H Q _ => ∃ (d : Addr) (kc : List (Key × V)) (s : Store) (av : List Addr) (n : Nat), vs = [.ref d, vN n] ∧ H d = some (.dK kc) ∧ ComD K H av kc s ∧ Good s ∧ (s.commit n).isSome = true ∧
  ∀ H' p, Same H H' → H p = none → H' p = some (.lst ((ancL s n).map vN)) → Q (.ref p) H'
theorem keys_ints {kvs : List (Key × V)} {F : List Nat} (h : kvs.map (·.1) = F.map kI) : kvs.map (·.1) = (F.map fun n : Nat => (n : Int)).map Sum.inl := by
  rw [h, List.map_map]; rfl
theorem keys_some {kvs : List (Key × V)} {F : List Nat} (h : kvs.map (·.1) = F.map kI) (n : Nat) : (valV kvs (kI n)).isSome = decide (n ∈ F) := by
  have : kI n ∈ kvs.map (·.1) ↔ n ∈ F := by
    rw [h, List.mem_map]
    constructor
    · rintro ⟨m, hm, e⟩
      rw [← kI_inj.mp e]; exact hm
    · exact fun hm => ⟨n, hm, rfl⟩
  rw [valV_key] at this
  by_cases q : n ∈ F
  · rw [decide_eq_true q, this.mpr q]
  · rw [decide_eq_false q]
    cases e : (valV kvs (kI n)).isSome with
    | false => rfl
    | true => exact absurd (this.mp e) q
theorem sc_ancestors : FnScope ["commits", "number", "found", "waiting", "current", "parent"] ["commits", "number"] (defScope s_ancestors) := ⟨rfl, rfl, rfl, by decide +kernel, rfl, by decide +kernel, by decide +kernel⟩
theorem ok_ancestors (T : Tx K mg) : Ok P w K mg ("ancestors", none) ["commits", "number"] 1 (spAnc K) := by
  refine T.ok (i := 2) (d := d_ancestors) rfl rfl sc_ancestors (fun vs H Q E h => ?_) (fun _ _ _ _ _ _ us hl => match us, hl with | [_, _], _ => rfl) (fun base tb cdv A outer s H vs Q E hr h => ?_)
  · obtain ⟨d, kc, s, av, n, rfl, _⟩ := h
    rfl
  · obtain ⟨d, kc, s, av, n, rfl, h2, C, G, hn, k⟩ := h
    have n40 : n < 40 := by
      obtain ⟨c, hc⟩ := Option.isSome_iff_exists.mp hn
      exact Nat.lt_of_lt_of_le (commit_lt hc) G.n1
    have hu := hu_of hr
    refine ⟨_, (pss_cons (ps_set (i := 2) sc_ancestors.nd rfl (by first | exact Or.inl rfl | exact Or.inr rfl) (pe_disp (pps_cons (pv 1) pe_bl pps_nil) (by rfl) (by rfl) (fun z => by cases z) (by decide)))
        (pss_cons (ps_set (i := 3) sc_ancestors.nd rfl (by first | exact Or.inl rfl | exact Or.inr rfl) (pe_lst (pa_cons (pv 1) pa_nil)))
        (pss_cons (ps_while PassesOwn.never (pt_truth (pv 3) (by intro _; rfl))
          (pss_cons (ps_set (i := 4) sc_ancestors.nd rfl (by first | exact Or.inl rfl | exact Or.inr rfl) (pe_dget hu (pv 0) (pe_bm0 PySem.F.plainAttrs_list PySem.F.slot_list_pop PySem.F.type_list_pop mt_pop (pv 3)) (fun _ _ => rfl)))
        (pss_one (ps_for PassesOwn.never rfl (kPiL (K := K) rfl (pe_fld (pv 4) rfl)) (pg_name (i := 5) sc_ancestors.nd rfl (by first | exact Or.inl rfl | exact Or.inr rfl))
          (pss_one (ps_if (pt_cmp (pc_dnotin hu (pv 5) (pv 2)))
          (pss_cons (ps_dput hu (pv 2) (pv 5) pe_bl rfl)
        (pss_one (ps_expr (pe_bm PySem.F.plainAttrs_list PySem.F.slot_list_append PySem.F.type_list_append mt_append (pv 3) (pa_cons (pv 5) pa_nil))))) pss_nil))))))
        (pss_one (ps_ret (pe_callBK (cr_sortedDR rfl) (by rfl) (T.free 93) (by decide +kernel) (pa_cons (pv 2) pa_nil) (pk_cons pe_bl pk_nil))))))), ?_⟩
    refine fun f nf => ⟨_, rfl, upd_same, [(kI n, .bl true)], rfl, by show 1 ≤ 15; decide, ?_⟩
    rw [show mergeK [] [(kI n, V.bl true)] = [(kI n, V.bl true)] from rfl]
    generalize eH1 : upd (upd H f (.dK [])) f (.dK [(kI n, V.bl true)]) = H1
    have s1 : Same H H1 := fun b o hb => by
      have ne := ne_of_none hb nf
      rw [← eH1, upd_ne ne, upd_ne ne]; exact hb
    have hf1 : H1 f = some (.dK [(kI n, V.bl true)]) := by rw [← eH1, upd_same]
    refine ⟨_, rfl, by show 1 ≤ sizeLine; decide, fun q nq => ?_⟩
    have s2 := same_upd (o := .lst [vN n]) nq
    have nq0 : H q = none := s1.free nq
    have nfq : f ≠ q := ne_of_none hf1 nq
    refine ⟨fun m σ H3 => ∃ (F W : List Nat) (kvs : List (Key × V)) (v4 v5 : Option V), σ = [some (.ref d), some (vN n), some (.ref f), some (.ref q), v4, v5] ∧ Same H H3 ∧ H3 f = some (.dK kvs) ∧ kvs.map (·.1) = F.map kI ∧ H3 q = some (.lst (W.map vN)) ∧ Dfs s n F W ∧ 2 * (n + 1 - F.length) + W.length = m ∧ m ≤ 100, ?_, ?_⟩
    · refine ⟨2 * n + 1, [n], [n], [(kI n, V.bl true)], none, none, rfl, s1.trans s2, s2 _ _ hf1, rfl, upd_same, Dfs.start s n, ?_, ?_⟩
      · show 2 * (n + 1 - 1) + 1 = 2 * n + 1
        omega
      · omega
    · rintro m σ H3 ⟨F, W, kvs, v4, v5, rfl, s3, hf3, hk, hq3, D, em, lm⟩
      rcases List.eq_nil_or_concat W with rfl | ⟨W', y, eW⟩
      · refine ⟨_, rfl, false, .inl ⟨_, SqL.of hq3, rfl⟩, ?_⟩
        refine itF rfl ?_
        refine ⟨_, rfl, f, kvs, F.map fun n : Nat => (n : Int), rfl, rfl, .inl hf3, keys_ints hk, fun ys p hp hs np => ?_⟩
        have e : ys = (ancL s n).map fun n : Nat => (n : Int) := by
          refine desc_ext ?_ ?_ fun x => ?_
          · have nd : ys.Nodup := hp.nodup_iff.mpr (by
              rw [List.nodup_iff_pairwise_ne, List.pairwise_map]
              exact List.Pairwise.imp (fun {a b} h => by omega) (List.nodup_iff_pairwise_ne.mp D.nd))
            exact List.Pairwise.imp (fun {a b} (h : a ≥ b ∧ a ≠ b) => by omega) (List.Pairwise.and hs (List.nodup_iff_pairwise_ne.mp nd))
          · rw [List.pairwise_map]
            exact List.Pairwise.imp (fun {a b} (h : a > b) => by show (a : Int) > (b : Int); omega) (ancL_desc s n)
          · rw [hp.mem_iff, List.mem_map, List.mem_map]
            constructor
            · rintro ⟨z, hz, rfl⟩
              exact ⟨z, (mem_ancL G n z).mpr ((D.done z).mp hz), rfl⟩
            · rintro ⟨z, hz, rfl⟩
              exact ⟨z, (D.done z).mpr ((mem_ancL G n z).mp hz), rfl⟩
        refine k _ p (s3.trans (same_upd np)) (s3.free np) ?_
        rw [upd_same, e, List.map_map]
        rfl
      · rw [List.concat_eq_append] at eW
        subst eW
        refine ⟨_, rfl, true, .inl ⟨_, SqL.of hq3, ?_⟩, ?_⟩
        · simp
        refine itT rfl ?_
        refine ⟨_, fun _ _ h => h, ?_⟩
        have D1 := D.take
        have hy : (s.commit y).isSome = true := (D.rea y (D.sub y (by simp))).live G hn
        obtain ⟨cm, hc⟩ := Option.isSome_iff_exists.mp hy
        obtain ⟨c, e1, e2⟩ := C.at_ _ _ hc
        obtain ⟨dy, gs, p, dv, g1, g2, g3, g4, g5, g6, g7, g8, g9⟩ := e2.ex
        have ew : (W' ++ [y]).map vN = W'.map vN ++ [vN y] := by simp
        rw [ew] at hq3
        have hlast : (W'.map vN ++ [vN y])[(W'.map vN ++ [vN y]).length - 1]? = some (vN y) := by simp
        have sW : Same H (upd H3 q (.lst (W'.map vN ++ [vN y]).dropLast)) := fun b o hb => by
          rw [upd_ne (ne_of_none hb nq0)]; exact s3 b o hb
        have gd := DGet.k (k := kI y) (sW _ _ h2)
        rw [e1] at gd
        refine ⟨_, rfl, _, rfl, .inl ⟨rfl, _, SqL.of hq3⟩, q, _, _, rfl, rfl, hq3, hlast, d, .ref c, rfl, gd, ?_⟩
        rw [List.dropLast_concat]
        rw [List.dropLast_concat] at sW
        refine ⟨_, rfl, c, _, _, _, _, rfl, sW _ _ g1, (T.cls 139), (T.noat 142), g2, p, rfl, ⟨_, SqL.of (sW _ _ g5)⟩, ?_⟩
        refine for_list (K := K) (a := p) (xs := cm.parents.map vN) (fun i σ H4 => ∃ (F W : List Nat) (kvs : List (Key × V)) (v5 : Option V), σ = [some (.ref d), some (vN n), some (.ref f), some (.ref q), some (.ref c), v5] ∧ Same H H4 ∧ H4 f = some (.dK kvs) ∧ kvs.map (·.1) = F.map kI ∧ H4 q = some (.lst (W.map vN)) ∧ Dfs1 s n y (cm.parents.take i) F W ∧ 2 * (n + 1 - F.length) + W.length < m)
          ⟨F, W', kvs, v5, rfl, sW, by rw [upd_ne nfq]; exact hf3, hk, upd_same, D1, by simp at em; omega⟩ (fun i σ H1 _ ⟨_, _, _, _, _, sx, _⟩ => sx.seq (SqL.of g5)) ?_ ?_
        · rintro i x σ H4 hx ⟨F, W, kvs, v5, rfl, s4, hf4, hk, hq4, D1, lm1⟩
          obtain ⟨z, e, rfl⟩ := nth_map hx
          have hz : z ∈ s.parents y := by rw [par_of hc]; exact List.mem_of_getElem? e
          refine ⟨_, rfl, _, rfl, f, _, rfl, DGet.k (k := kI z) hf4, _, rfl, ?_⟩
          rw [keys_some hk]
          by_cases hin : z ∈ F
          · refine itF (by rw [decide_eq_true hin]; rfl) ?_
            refine ⟨F, W, kvs, some (vN z), rfl, s4, hf4, hk, hq4, ?_, lm1⟩
            rw [take_snoc e]
            exact D1.old hin
          · refine itT (by rw [decide_eq_false hin]; rfl) ?_
            have D2 := D1.new hz hin
            have fl := found_len G.lowP D2.nd D2.rea
            rw [List.length_append, List.length_singleton] at fl
            have hkl : kvs.length = F.length := by
              have := congrArg List.length hk
              rw [List.length_map, List.length_map] at this
              exact this
            have hnone : valV kvs (kI z) = none := by
              have := keys_some hk z
              rw [decide_eq_false hin] at this
              cases e : valV kvs (kI z) with
              | none => rfl
              | some _ => rw [e] at this; cases this
            refine ⟨_, rfl, _, rfl, f, _, rfl, DPut.k (k := kI z) hf4 (small (m := 100) (by omega)), ?_⟩
            have hq5 : (upd H4 f (.dK (putK kvs (kI z) (.bl true)))) q = some (.lst (W.map vN)) := by rw [upd_ne nfq.symm]; exact hq4
            refine ⟨_, rfl, .inl ⟨rfl, _, SqL.of hq5⟩, _, rfl, q, _, _, rfl, rfl, hq5, small (m := 200) (by rw [List.length_map]; omega), ?_⟩
            refine ⟨F ++ [z], W ++ [z], putK kvs (kI z) (.bl true), some (vN z), rfl, fun b o hb => ?_, ?_, ?_, ?_, ?_, ?_⟩
            · rw [upd_ne (ne_of_none hb nq0), upd_ne (ne_of_none hb nf)]; exact s4 b o hb
            · rw [upd_ne nfq, upd_same]
            · rw [putK_new hnone, List.map_append, hk, List.map_append]; rfl
            · rw [upd_same, List.map_append]; rfl
            · rw [take_snoc e]; exact D2
            · simp only [List.length_append, List.length_singleton]; omega
        · rintro σ H4 ⟨F, W, kvs, v5, rfl, s4, hf4, hk, hq4, D1, lm1⟩
          refine ⟨_, lm1, F, W, kvs, some (.ref c), v5, rfl, s4, hf4, hk, hq4, ?_, rfl, by omega⟩
          rw [List.length_map, List.take_length, ← par_of hc] at D1
          exact D1.done
end Pv
end
section
set_option Elab.async false
set_option linter.all false
set_option maxRecDepth 100000
set_option maxHeartbeats 2000000
namespace Pv
open PySem PySem.Spec PyProof.Rows L2 Kvg9
open L2 (Dp DpAll)
variable {P : Program} {w : World} {K : PySem.W.Frag} {mg : Str → Option Value}
theorem kIn {X : Cx} (h : X.K = K) : OpR X (compareOp .In) (rIn K false) := by subst h; exact op_in_seq
theorem kNotIn {X : Cx} (h : X.K = K) : OpR X (compareOp .NotIn) (rIn K true) := by subst h; exact op_notIn_seq
theorem inV_nat (n : Nat) (l : List Nat) : inV (vN n) (l.map vN) = decide (n ∈ l) := by
  unfold inV
  rw [List.any_map]
  have e : ∀ m : Nat, eqV (vN m) (vN n) = decide (m = n) := fun m => by
    show ((m : Int) == (n : Int)) = _
    by_cases h : m = n
    · rw [h, decide_eq_true rfl]; simp
    · rw [decide_eq_false h]; simp; omega
  induction l with
  | nil => rfl
  | cons a l ih =>
    rw [List.any_cons, ih]
    show (eqV (vN a) (vN n) || _) = _
    rw [e]
    by_cases h : a = n
    · simp [h]
    · by_cases q : n ∈ l
      · simp [h, q]
      · simp [h, q]; exact fun z => h z.symm
theorem flat_nat (l : List Nat) : (l.map vN).all flatV = true := by
  rw [List.all_map]
  exact List.all_eq_true.mpr fun _ _ => rfl
def spGca (K : PySem.W.Frag) : Sp := fun vs H Q _ => ∃ (d : Addr) (kc : List (Key × V)) (s : Store) (av : List Addr) (x y : Nat), vs = [.ref d, vN x, vN y] ∧ H d = some (.dK kc) ∧ ComD K H av kc s ∧ Good s ∧ (s.commit x).isSome = true ∧ (s.commit y).isSome = true ∧
  ∀ H', Same H H' → Q (vN (s.commonAncestor x y)) H'
theorem ComD.same {H H' : Hp} {av : List Addr} {kvs : List (Key × V)} {s : Store} (e : Same H H') (C : ComD K H av kvs s) : ComD K H' av kvs s := C.keep (fun b o q _ _ => e b o q) (Tup.of e)
theorem live40 {s : Store} (G : Good s) {n : Nat} (h : (s.commit n).isSome = true) : n < 40 := by
  obtain ⟨c, hc⟩ := Option.isSome_iff_exists.mp h
  exact Nat.lt_of_lt_of_le (commit_lt hc) G.n1
theorem sc_greatest_common_ancestor : FnScope ["commits", "first", "second", "known", "number"] ["commits", "first", "second"] (defScope s_greatest_common_ancestor) := ⟨rfl, rfl, rfl, by decide +kernel, rfl, by decide +kernel, by decide +kernel⟩
theorem ok_greatest_common_ancestor (T : Tx K mg) : Ok P w K mg ("greatest_common_ancestor", none) ["commits", "first", "second"] 2 (spGca K) := by
  refine T.ok (i := 3) (d := d_greatest_common_ancestor) rfl rfl sc_greatest_common_ancestor (fun vs H Q E h => ?_) (fun _ _ _ _ _ _ us hl => match us, hl with | [_, _, _], _ => rfl) (fun base tb cdv A outer s H vs Q E hr h => ?_)
  · obtain ⟨d, kc, s, av, x, y, rfl, _⟩ := h
    rfl
  · obtain ⟨d, kc, s, av, x, y, rfl, h2, C, G, hx, hy, k⟩ := h
    have hu := hu_of hr
    refine ⟨_, (pss_cons (ps_set (i := 3) sc_greatest_common_ancestor.nd rfl (by first | exact Or.inl rfl | exact Or.inr rfl) (pe_callO (ok_ancestors T) tb (T.glo 2) hr rfl (pa_cons (pv 0) (pa_cons (pv 1) pa_nil))))
        (pss_one (ps_ret (pe_callB (kMax (K := K) rfl rfl) (by rfl) (T.free 89) (by decide +kernel) (pa_cons (pe_lc (own := [("number", 4)]) rfl sc_greatest_common_ancestor.nd (kPiL (K := K) rfl (pe_callO (ok_ancestors T) tb (T.glo 2) hr rfl (pa_cons (pv 0) (pa_cons (pv 2) pa_nil)))) (blkOk_by (N := ["commits", "first", "second", "known", "number"]) (sc := defScope s_greatest_common_ancestor) (by decide +kernel)) (fun _ _ _ _ _ => (pg_name (i := 4) sc_greatest_common_ancestor.nd rfl (by first | exact Or.inl rfl | exact Or.inr rfl))) (fun _ _ _ _ _ => (pts_one (pt_cmpR (kIn (K := K) rfl) (pv 4) (pv 3) (by rfl)))) (fun _ _ _ _ _ => (pv 4))) pa_nil))))), ?_⟩
    refine ⟨_, rfl, _, rfl, d, kc, s, av, x, rfl, h2, C, G, hx, fun H1 p s1 np hp => ?_⟩
    refine ⟨_, rfl, _, rfl, d, kc, s, av, y, rfl, s1 _ _ h2, C.same s1, G, hy, fun H2 q s2 nq hq => ⟨q, rfl, ⟨_, SqL.of hq⟩, ?_⟩⟩
    have yl := live40 G hy
    have yn := ancL_len s y
    refine fun D nD => lc_list (K := K) (a := q) (xs := (ancL s y).map vN) (LcP H2 D (fun i acc _ => acc = (((ancL s y).take i).filter fun n => decide (n ∈ ancL s x)).map vN)) (LcP.start nD rfl) (fun i H' _ q => q.1.seq (SqL.of hq)) ?_ ?_
    · rintro i x' H3 hx' ⟨s3, acc, hD, hA, r⟩
      obtain ⟨n, e, rfl⟩ := nth_map hx'
      have hi := (List.getElem?_eq_some_iff.mp e).1
      refine ⟨rfl, ?_⟩
      refine ⟨_, rfl, _, rfl, p, (ancL s x).map vN, rfl, .inl (SqL.of (s3 _ _ (s2 _ _ hp))), rfl, flat_nat _, _, rfl, ?_⟩
      show if inV (vN n) ((ancL s x).map vN) = true then _ else _
      rw [inV_nat]
      by_cases hm : n ∈ ancL s x
      · refine itT (decide_eq_true hm) ?_
        refine ⟨_, rfl, LcP.put (n := 1000) nD s3 hD hA (Same.refl _) (by omega) ?_⟩
        show acc ++ [_] = _
        rw [show acc = _ from r, take_snoc e, List.filter_append, List.filter_cons, decide_eq_true hm]
        simp
      · refine itF (decide_eq_false hm) ?_
        refine LcP.skip s3 hD hA (Same.refl _) ?_
        show acc = _
        rw [show acc = _ from r, take_snoc e, List.filter_append, List.filter_cons, decide_eq_false hm]
        simp
    · rintro H3 ⟨s3, acc, hD, hA, r⟩
      have r : acc = (((ancL s y).take ((ancL s y).map vN).length).filter fun n => decide (n ∈ ancL s x)).map vN := r
      rw [List.length_map, List.take_length] at r
      have mem : ∀ z, z ∈ (ancL s y).filter (fun n => decide (n ∈ ancL s x)) ↔ Reach s y z ∧ Reach s x z := fun z => by
        rw [List.mem_filter, decide_eq_true_eq, mem_ancL G, mem_ancL G]
      refine ⟨D, ((ancL s y).filter fun n => decide (n ∈ ancL s x)).map fun n : Nat => (n : Int), rfl, SqL.of ?_, ?_, fun m hm hmax => ?_⟩
      · rw [hD, r, List.map_map]; rfl
      · rw [List.length_map, List.length_pos_iff]
        have := (mem 0).mpr ⟨Reach.zero G hy, Reach.zero G hx⟩
        exact fun z => by rw [z] at this; cases this
      · obtain ⟨c, hc, rfl⟩ := List.mem_map.mp hm
        obtain ⟨r1, r2⟩ := (mem c).mp hc
        rw [common_is G hx hy r2 r1 fun z z1 z2 => by
          have := hmax z (List.mem_map.mpr ⟨z, (mem z).mpr ⟨z2, z1⟩, rfl⟩)
          omega]
        exact k H3 (s1.trans (s2.trans s3))
theorem keys_more {kvs : List (Key × V)} {F : List Nat} (h : kvs.map (·.1) = F.map kI) (nd : F.Nodup) (lt : ∀ x ∈ F, x < 40) {n : Nat} (hn : n < 40) (y : V) :
    ∃ F' : List Nat, (putK kvs (kI n) y).map (·.1) = F'.map kI ∧ F'.Nodup ∧ (∀ x ∈ F', x < 40) ∧ ∀ x, x ∈ F' ↔ x ∈ F ∨ x = n := by
  by_cases q : n ∈ F
  · refine ⟨F, ?_, nd, lt, fun x => ⟨.inl, fun z => z.elim id fun e => e ▸ q⟩⟩
    have hs : (valV kvs (kI n)).isSome = true := by rw [keys_some h, decide_eq_true q]
    unfold putK
    rw [if_pos (by rw [valV_any]; exact hs), ← h, List.map_map]
    refine List.map_congr_left fun p _ => ?_
    simp only [Function.comp]
    split <;> rfl
  · have hnone : valV kvs (kI n) = none := by
      have := keys_some h n
      rw [decide_eq_false q] at this
      cases e : valV kvs (kI n) with
      | none => rfl
      | some _ => rw [e] at this; cases this
    refine ⟨F ++ [n], ?_, ?_, fun x hx => ?_, fun x => by simp⟩
    · rw [putK_new hnone, List.map_append, h, List.map_append]; rfl
    · rw [List.nodup_append]
      exact ⟨nd, by simp, fun a ha b hb => by
        have : b = n := by simpa using hb
        rw [this]; exact fun e => q (e ▸ ha)⟩
    · rcases List.mem_append.mp hx with h | h
      · exact lt x h
      · have : x = n := by simpa using h
        rw [this]; exact hn
theorem few40 {F : List Nat} (nd : F.Nodup) (lt : ∀ x ∈ F, x < 40) : F.length ≤ 40 := by
  have h : F.length ≤ (List.range 40).length := nd.length_le_of_subset fun x hx => List.mem_range.mpr (lt x hx)
  rw [List.length_range] at h
  exact h
theorem keys_len {kvs : List (Key × V)} {F : List Nat} (h : kvs.map (·.1) = F.map kI) : kvs.length = F.length := by
  have := congrArg List.length h
  rw [List.length_map, List.length_map] at this
  exact this
def spReach (K : PySem.W.Frag) : Sp := fun vs H Q _ => ∃ (d q : Addr) (kc : List (Key × V)) (s : Store) (av : List Addr) (L : List Nat), vs = [.ref d, .ref q] ∧ H d = some (.dK kc) ∧ ComD K H av kc s ∧ Good s ∧ H q = some (.lst (L.map vN)) ∧ (∀ x ∈ L, (s.commit x).isSome = true) ∧
  ∀ (H' : Hp) (f : Addr) (kf : List (Key × V)) (F : List Nat), Same H H' → H f = none → H' f = some (.dK kf) → kf.map (·.1) = F.map kI → (∀ x, x ∈ F ↔ ∃ y ∈ L, Reach s y x) → Q (.ref f) H'
theorem sc_reachable : FnScope ["commits", "starts", "found", "start", "number"] ["commits", "starts"] (defScope s_reachable) := ⟨rfl, rfl, rfl, by decide +kernel, rfl, by decide +kernel, by decide +kernel⟩
theorem ok_reachable (T : Tx K mg) : Ok P w K mg ("reachable", none) ["commits", "starts"] 2 (spReach K) := by
  refine T.ok (i := 4) (d := d_reachable) rfl rfl sc_reachable (fun vs H Q E h => ?_) (fun _ _ _ _ _ _ us hl => match us, hl with | [_, _], _ => rfl) (fun base tb cdv A outer s H vs Q E hr h => ?_)
  · obtain ⟨d, q, kc, s, av, L, rfl, _⟩ := h
    rfl
  · obtain ⟨d, q, kc, s, av, L, rfl, h2, C, G, hq, hL, k⟩ := h
    have hu := hu_of hr
    refine ⟨_, (pss_cons (ps_set (i := 2) sc_reachable.nd rfl (by first | exact Or.inl rfl | exact Or.inr rfl) pe_dnewK)
        (pss_cons (ps_for PassesOwn.never rfl (kPiL (K := K) rfl (pv 1)) (pg_name (i := 3) sc_reachable.nd rfl (by first | exact Or.inl rfl | exact Or.inr rfl))
          (pss_one (ps_for PassesOwn.never rfl (kPiL (K := K) rfl (pe_callO (ok_ancestors T) tb (T.glo 2) hr rfl (pa_cons (pv 0) (pa_cons (pv 3) pa_nil)))) (pg_name (i := 4) sc_reachable.nd rfl (by first | exact Or.inl rfl | exact Or.inr rfl))
          (pss_one (ps_dput hu (pv 2) (pv 4) pe_bl rfl)))))
        (pss_one (ps_ret (pv 2))))), ?_⟩
    refine fun f nf => ?_
    have s1 := same_upd (o := .dK []) nf
    refine ⟨_, rfl, q, rfl, ⟨_, SqL.of (s1 _ _ hq)⟩, for_list (K := K) (a := q) (xs := L.map vN) (fun i σ H1 => ∃ (v3 v4 : Option V) (kf : List (Key × V)) (F : List Nat), σ = [some (.ref d), some (.ref q), some (.ref f), v3, v4] ∧ Same H H1 ∧ H1 f = some (.dK kf) ∧ kf.map (·.1) = F.map kI ∧ F.Nodup ∧ (∀ x ∈ F, x < 40) ∧ ∀ x, x ∈ F ↔ ∃ y ∈ L.take i, Reach s y x)
      ⟨none, none, [], [], rfl, s1, upd_same, rfl, List.nodup_nil, (fun _ h => by cases h), fun x => ⟨(fun h => by cases h), fun ⟨_, h, _⟩ => by cases h⟩⟩ (fun i σ H1 _ ⟨_, _, _, _, _, s, _⟩ => s.seq (SqL.of hq)) ?_ ?_⟩
    · rintro i x σ H1 hi ⟨v3, v4, kf, F, rfl, s2, hf, hk, nd, lt, hm⟩
      obtain ⟨n, e, rfl⟩ := nth_map hi
      have hn := hL n (List.mem_of_getElem? e)
      refine ⟨_, rfl, _, rfl, d, kc, s, av, n, rfl, s2 _ _ h2, C.same s2, G, hn, fun H3 p s3 np hp => ⟨p, rfl, ⟨_, SqL.of hp⟩, ?_⟩⟩
      have npf : f ≠ p := ne_of_none hf np
      refine for_list (K := K) (a := p) (xs := (ancL s n).map vN) (fun j σ H4 => ∃ (v4 : Option V) (kf : List (Key × V)) (F : List Nat), σ = [some (.ref d), some (.ref q), some (.ref f), some (vN n), v4] ∧ Same H H4 ∧ H4 p = some (.lst ((ancL s n).map vN)) ∧ H4 f = some (.dK kf) ∧ kf.map (·.1) = F.map kI ∧ F.Nodup ∧ (∀ x ∈ F, x < 40) ∧ ∀ x, x ∈ F ↔ (∃ y ∈ L.take i, Reach s y x) ∨ x ∈ (ancL s n).take j)
        ⟨v4, kf, F, rfl, s2.trans s3, hp, s3 _ _ hf, hk, nd, lt, fun x => by rw [hm x]; simp⟩ (fun i σ H1 _ ⟨_, _, _, _, _, q, _⟩ => SqL.of q) ?_ ?_
      · rintro j x σ H4 hj ⟨v4, kf, F, rfl, s4, hp4, hf, hk, nd, lt, hm⟩
        obtain ⟨z, e2, rfl⟩ := nth_map hj
        have hz : z < 40 := by
          have r := (mem_ancL G n z).mp (List.mem_of_getElem? e2)
          have := r.le G.lowP
          have := live40 G hn
          omega
        have hl := few40 nd lt
        refine ⟨_, rfl, _, rfl, f, _, rfl, DPut.k (k := kI z) hf (small (m := 100) (by rw [keys_len hk]; omega)), ?_⟩
        obtain ⟨F', k1, k2, k3, k4⟩ := keys_more hk nd lt hz (.bl true)
        refine ⟨some (vN z), _, F', rfl, fun b o hb => ?_, ?_, upd_same, k1, k2, k3, fun x => ?_⟩
        · rw [upd_ne (ne_of_none hb nf)]; exact s4 b o hb
        · rw [upd_ne npf.symm]; exact hp4
        · rw [k4, hm, take_snoc e2, List.mem_append, List.mem_singleton, or_assoc]
      · rintro σ H4 ⟨v4, kf, F, rfl, s4, hp4, hf, hk, nd, lt, hm⟩
        refine ⟨some (vN n), v4, kf, F, rfl, s4, hf, hk, nd, lt, fun x => ?_⟩
        rw [hm, List.length_map, List.take_length, take_snoc e, mem_ancL G]
        constructor
        · rintro (⟨y, hy, r⟩ | r)
          · exact ⟨y, List.mem_append_left _ hy, r⟩
          · exact ⟨n, List.mem_append_right _ (by simp), r⟩
        · rintro ⟨y, hy, r⟩
          rcases List.mem_append.mp hy with h | h
          · exact .inl ⟨y, h, r⟩
          · have : y = n := by simpa using h
            exact .inr (this ▸ r)
    · rintro σ H1 ⟨v3, v4, kf, F, rfl, s2, hf, hk, nd, lt, hm⟩
      rw [List.length_map, List.take_length] at hm
      exact ⟨_, rfl, k H1 f kf F s2 nf hf hk hm⟩
/-- the values of a dict of names -/
theorem NamD.vals {kvs : List (Key × V)} {l : List (Nat × Nat)} (D : NamD kvs l) (sr : NSrt l) : ∃ L : List Nat, kvs.map (·.2) = L.map vN ∧ L.length = l.length ∧ ∀ x, x ∈ L ↔ ∃ e ∈ l, e.2 = x := by
  have make : ∀ ks : List (Key × V), (∀ p ∈ ks, p ∈ kvs) → ∃ L : List Nat, ks.map (·.2) = L.map vN ∧ ∀ x, x ∈ L ↔ ∃ p ∈ ks, p.2 = vN x := by
    intro ks
    induction ks with
    | nil => exact fun _ => ⟨[], rfl, fun x => by simp⟩
    | cons p ks ih =>
      intro h
      obtain ⟨L, e, m⟩ := ih fun q hq => h q (List.mem_cons_of_mem _ hq)
      have hp := h p (by simp)
      obtain ⟨n, en⟩ := D.only p.1 (List.mem_map_of_mem hp)
      have hv := valV_mem D.nd hp
      rw [en, D.get] at hv
      cases hl : lookup l n with
      | none => rw [hl] at hv; cases hv
      | some c =>
        rw [hl] at hv
        have hv : vN c = p.2 := Option.some.inj hv
        refine ⟨c :: L, by rw [List.map_cons, e, ← hv]; rfl, fun x => ?_⟩
        rw [List.mem_cons, m]
        constructor
        · rintro (q | ⟨y, hy, q⟩)
          · exact ⟨p, by simp, by rw [q, hv]⟩
          · exact ⟨y, List.mem_cons_of_mem _ hy, q⟩
        · rintro ⟨y, hy, q⟩
          rcases List.mem_cons.mp hy with z | z
          · rw [z, ← hv] at q
            have := V.int.inj q
            exact .inl (by omega)
          · exact .inr ⟨y, z, q⟩
  obtain ⟨L, e, m⟩ := make kvs fun _ h => h
  refine ⟨L, e, ?_, fun x => ?_⟩
  · rw [← D.len sr]
    have := congrArg List.length e
    rw [List.length_map, List.length_map] at this
    exact this.symm
  · rw [m]
    constructor
    · rintro ⟨p, hp, q⟩
      obtain ⟨n, en⟩ := D.only p.1 (List.mem_map_of_mem hp)
      have hv := valV_mem D.nd hp
      rw [en, D.get] at hv
      cases hl : lookup l n with
      | none => rw [hl] at hv; cases hv
      | some c =>
        rw [hl] at hv
        have hv : vN c = p.2 := Option.some.inj hv
        rw [q] at hv
        have := V.int.inj hv
        exact ⟨(n, c), look_mem hl, by show c = x; omega⟩
    · rintro ⟨e, he, rfl⟩
      have hs : valV kvs (kI e.1) = some (vN e.2) := by rw [D.get, look_of_mem sr he]; rfl
      have hk := valV_in hs
      obtain ⟨p, hp, q⟩ := List.mem_map.mp hk
      have := valV_mem D.nd hp
      rw [q, hs] at this
      exact ⟨p, hp, (Option.some.inj this).symm⟩
def spNamed (K : PySem.W.Frag) : Sp := fun vs H Q _ => ∃ a s m av, vs = [.ref a] ∧ StoreG K H a s m av ∧ Good s ∧ ∀ (H' : Hp) (p : Addr) (L : List Nat), Same H H' → H p = none → H' p = some (.lst (L.map vN)) → (∀ x, x ∈ L ↔ ∃ e, (e ∈ s.branches ∨ e ∈ s.tags) ∧ e.2 = x) → Q (.ref p) H'
theorem sc_Store_named_commits : FnScope ["self"] ["self"] (defScope s_Store_named_commits) := ⟨rfl, rfl, rfl, by decide +kernel, rfl, by decide +kernel, by decide +kernel⟩
theorem ok_Store_named_commits (T : Tx K mg) : Ok P w K mg ("Store", some "named_commits") ["self"] 1 (spNamed K) := by
  refine T.ok (i := 86) (d := d_Store_named_commits) rfl rfl sc_Store_named_commits (fun vs H Q E h => ?_) (fun _ _ _ _ _ _ us hl => match us, hl with | [_], _ => rfl) (fun base tb cdv A outer s H vs Q E hr h => ?_)
  · obtain ⟨a, s, m, av, rfl, _⟩ := h
    rfl
  · obtain ⟨a, s, m, av, rfl, S, G, k⟩ := h
    obtain ⟨⟨dx, fs, h1, F⟩, ⟨kc, h2, C⟩, ⟨kb, h3, B⟩, ⟨kt, h4, T'⟩, W, A⟩ := id S
    obtain ⟨L1, e1, l1, m1⟩ := B.vals G.br.srt
    obtain ⟨L2, e2, l2, m2⟩ := T'.vals G.tg.srt
    have hu := hu_of hr
    refine ⟨_, (pss_one (ps_ret (pe_op op_cat (pe_callTy (cr_listV rfl) (by rfl) (T.free 88) (by decide +kernel) (pa_cons (pe_bm0 PySem.F.plainAttrs_dict PySem.F.slot_dict_values PySem.F.type_dict_values mt_vals (pe_fld (pv 0) rfl)) pa_nil)) (pe_callTy (cr_listV rfl) (by rfl) (T.free 88) (by decide +kernel) (pa_cons (pe_bm0 PySem.F.plainAttrs_dict PySem.F.slot_dict_values PySem.F.type_dict_values mt_vals (pe_fld (pv 0) rfl)) pa_nil))))), ?_⟩
    refine ⟨_, rfl, _, _, _, _, _, rfl, h1, (T.cls 145), (T.noat 148), F.br, .inr (.inr (.inl ⟨rfl, .inl ⟨_, h3⟩⟩)), m.db, kb, rfl, rfl, h3, fun p np => ?_⟩
    have s1 := same_upd (o := valsO p m.db) np
    refine ⟨p, m.db, kb, rfl, upd_same, s1 _ _ h3, fun l nl => ?_⟩
    have s2 := same_upd (o := .lst (kb.map (·.2))) nl
    have s12 := s1.trans s2
    have h1' := s12 _ _ h1
    refine ⟨_, rfl, _, _, _, _, _, rfl, h1', (T.cls 145), (T.noat 152), F.tg, .inr (.inr (.inl ⟨rfl, .inl ⟨_, s12 _ _ h4⟩⟩)), m.dt, kt, rfl, rfl, s12 _ _ h4, fun p' np' => ?_⟩
    have s3 := same_upd (o := valsO p' m.dt) np'
    refine ⟨p', m.dt, kt, rfl, upd_same, s3 _ _ (s12 _ _ h4), fun l' nl' => ?_⟩
    have s4 := same_upd (o := .lst (kt.map (·.2))) nl'
    refine ⟨l, l', _, _, rfl, rfl, s4 _ _ (s3 _ _ upd_same), upd_same, ?_, fun r nr => ?_⟩
    · rw [e1, e2, List.length_map, List.length_map]
      have := G.br.len
      have := G.tg.len
      exact small' (m := 100) (by omega)
    · have sA := s12.trans (s3.trans s4)
      refine k _ r (L1 ++ L2) (sA.trans (same_upd nr)) (sA.free nr) ?_ fun x => ?_
      · rw [upd_same, e1, e2, List.map_append]
      · rw [List.mem_append, m1, m2]
        constructor
        · rintro (⟨e, he, q⟩ | ⟨e, he, q⟩)
          · exact ⟨e, .inl he, q⟩
          · exact ⟨e, .inr he, q⟩
        · rintro ⟨e, he | he, q⟩
          · exact .inl ⟨e, he, q⟩
          · exact .inr ⟨e, he, q⟩
end Pv
end
section
set_option Elab.async false
set_option linter.all false
set_option maxRecDepth 100000
set_option maxHeartbeats 2000000
namespace Pv
open PySem PySem.Spec PyProof.Rows L2 Kvg9
open L2 (Dp DpAll)
variable {P : Program} {w : World} {K : PySem.W.Frag} {mg : Str → Option Value}
theorem ints_nat (l : List Nat) : (Kvg9.ints l).map V.int = l.map vN := by
  unfold Kvg9.ints
  rw [List.map_map]; rfl
theorem sc_log : FnScope ["store", "given", "number", "found"] ["store", "given"] (defScope s_log) := ⟨rfl, rfl, rfl, by decide +kernel, rfl, by decide +kernel, by decide +kernel⟩
theorem ok_log (T : Tx K mg) : Ok P w K mg ("log", none) ["store", "given"] 2 (spRun K g1 (fun _ => True) Operation.log) := by
  refine T.ok (i := 69) (d := d_log) rfl rfl sc_log (fun vs H Q E h => ?_) (fun _ _ _ _ _ _ us hl => match us, hl with | [_, _], _ => rfl) (fun base tb cdv A outer s H vs Q E hr h => ?_)
  · obtain ⟨a, s, m, g, x, xs, rfl, _⟩ := h
    rfl
  · obtain ⟨a, s, m, g, x, xs, rfl, S, G, tt, hg, rfl, hx, k⟩ := h
    obtain ⟨⟨dx, fs, h1, F⟩, ⟨kc, h2, C⟩, ⟨kb, h3, B⟩, ⟨kt, h4, T'⟩, ⟨kw, h5, D⟩, A⟩ := id S
    obtain ⟨na, nb, nt, nw⟩ := S.ne_a
    have hu := hu_of hr
    refine ⟨_, (pss_cons (ps_set (i := 2) sc_log.nd rfl (by first | exact Or.inl rfl | exact Or.inr rfl) (pe_ix (kIxL (K := K) rfl) (pv 1) pe_int (fun _ _ => rfl)))
        (pss_cons (ps_if (pt_cmp (pc_dnotin hu (pv 2) (pe_fld (pv 0) rfl)))
          (pss_one (ps_ret (pe_lst (pa_cons (pe_gint (T.int 108) rfl) pa_nil)))) pss_nil)
        (pss_cons (ps_set (i := 3) sc_log.nd rfl (by first | exact Or.inl rfl | exact Or.inr rfl) (pe_callO (ok_ancestors T) tb (T.glo 2) hr rfl (pa_cons (pe_fld (pv 0) rfl) (pa_cons (pv 2) pa_nil))))
        (pss_one (ps_ret (pe_op op_cat (pe_lst (pa_cons (pe_callB (kLen (K := K) rfl) (by rfl) (T.free 87) PySem.boot_len (pa_cons (pv 3) pa_nil)) pa_nil)) (pv 3))))))), ?_⟩
    have er : s.run (.log x) = if s.exists_ x = false then (s, .error (-2)) else (s, ⟨((ancL s x).length : Nat), Kvg9.ints (ancL s x)⟩) := rfl
    refine ⟨_, rfl, g, _, _, _, rfl, rfl, SqL.of hg, atI_nat (j := 0) rfl, _, rfl, _, rfl, _, _, _, _, _, rfl, h1, (T.cls 145), (T.noat 150), F.cm, m.dc, _, rfl, DGet.k (k := kI x) h2, _, rfl, ?_⟩
    rw [C.isSome]
    cases hc : s.exists_ x with
    | false =>
      rw [show (s.commit x).isSome = false from hc]
      refine itT (c := !false) rfl ?_
      rw [if_pos hc] at er
      exact lit_done S tt (by rw [er]) (by rw [er] <;> rfl) rfl k
    | true =>
      have hx' : (s.commit x).isSome = true := hc
      rw [hx']
      refine itF (c := !true) rfl ?_
      rw [if_neg (by rw [hc]; simp)] at er
      refine ⟨_, rfl, _, _, _, _, _, rfl, h1, (T.cls 145), (T.noat 150), F.cm, _, rfl, m.dc, kc, s, _, x, rfl, h2, C, G, hx', fun H1 p s1 np hp => ?_⟩
      refine ⟨_, rfl, p, _, rfl, .inl (SqL.of hp), by show 1 ≤ sizeLine; decide, fun q nq => ?_⟩
      have s2 := same_upd (o := .lst [V.int (((ancL s x).map vN).length : Nat)]) nq
      have l1 := ancL_len s x
      have l2 := live40 G hx'
      refine ⟨_, rfl, q, p, _, _, rfl, rfl, upd_same, s2 _ _ hp, small' (m := 100) (by simp; omega), fun r nr => ?_⟩
      refine same_done (l := ((ancL s x).length : Int) :: Kvg9.ints (ancL s x)) S tt (by rw [er]) (by rw [er] <;> rfl) k ((s1.trans s2).trans (same_upd nr)) ((s1.trans s2).free nr) ?_
      rw [upd_same, List.map_cons, ints_nat, List.length_map]
      rfl
theorem sc_common_ancestor : FnScope ["store", "given", "first", "second"] ["store", "given"] (defScope s_common_ancestor) := ⟨rfl, rfl, rfl, by decide +kernel, rfl, by decide +kernel, by decide +kernel⟩
theorem ok_common_ancestor (T : Tx K mg) : Ok P w K mg ("common_ancestor", none) ["store", "given"] 3 (spRun K g2 (fun _ => True) (fun x => Operation.commonAncestor x.1 x.2)) := by
  refine T.ok (i := 70) (d := d_common_ancestor) rfl rfl sc_common_ancestor (fun vs H Q E h => ?_) (fun _ _ _ _ _ _ us hl => match us, hl with | [_, _], _ => rfl) (fun base tb cdv A outer s H vs Q E hr h => ?_)
  · obtain ⟨a, s, m, g, x, xs, rfl, _⟩ := h
    rfl
  · obtain ⟨a, s, m, g, x, xs, rfl, S, G, tt, hg, rfl, hx, k⟩ := h
    obtain ⟨⟨dx, fs, h1, F⟩, ⟨kc, h2, C⟩, ⟨kb, h3, B⟩, ⟨kt, h4, T'⟩, ⟨kw, h5, D⟩, A⟩ := id S
    obtain ⟨na, nb, nt, nw⟩ := S.ne_a
    have hu := hu_of hr
    refine ⟨_, (pss_cons (ps_asg (pv 1) (pg_unl rfl (pgs_cons (pg_name (i := 2) sc_common_ancestor.nd rfl (by first | exact Or.inl rfl | exact Or.inr rfl)) (pgs_cons (pg_name (i := 3) sc_common_ancestor.nd rfl (by first | exact Or.inl rfl | exact Or.inr rfl)) pgs_nil))))
        (pss_cons (ps_if (PW.pt (pw_or (pt_cmp (pc_dnotin hu (pv 2) (pe_fld (pv 0) rfl))) (pw_or1 (pt_cmp (pc_dnotin hu (pv 3) (pe_fld (pv 0) rfl))))))
          (pss_one (ps_ret (pe_lst (pa_cons (pe_gint (T.int 108) rfl) pa_nil)))) pss_nil)
        (pss_one (ps_ret (pe_lst (pa_cons (pe_callO (ok_greatest_common_ancestor T) tb (T.glo 3) hr rfl (pa_cons (pe_fld (pv 0) rfl) (pa_cons (pv 2) (pa_cons (pv 3) pa_nil)))) pa_nil)))))), ?_⟩
    obtain ⟨c, d⟩ := x
    dsimp only at hg k
    have er : s.run (.commonAncestor c d) = if (s.exists_ c && s.exists_ d) = false then (s, .error (-2)) else (s, .number (s.commonAncestor c d)) := rfl
    refine ⟨_, rfl, g, _, rfl, SqL.of hg, rfl, _, _, rfl, _, _, rfl, rfl, ?_⟩
    refine ⟨_, rfl, _, rfl, _, _, _, _, _, rfl, h1, (T.cls 145), (T.noat 150), F.cm, m.dc, _, rfl, DGet.k (k := kI c) h2, _, rfl, ?_⟩
    rw [C.isSome]
    cases hc : s.exists_ c with
    | false =>
      rw [show (s.commit c).isSome = false from hc]
      refine itT (c := !false) rfl ?_
      rw [hc, Bool.false_and, if_pos rfl] at er
      exact lit_done S tt (by rw [er]) (by rw [er] <;> rfl) rfl k
    | true =>
      have hc' : (s.commit c).isSome = true := hc
      rw [hc']
      refine itF (c := !true) rfl ?_
      refine ⟨_, rfl, _, rfl, _, _, _, _, _, rfl, h1, (T.cls 145), (T.noat 150), F.cm, m.dc, _, rfl, DGet.k (k := kI d) h2, _, rfl, ?_⟩
      rw [C.isSome]
      cases hd : s.exists_ d with
      | false =>
        rw [show (s.commit d).isSome = false from hd]
        refine itT (c := !false) rfl ?_
        rw [hc, hd, Bool.true_and, if_pos rfl] at er
        exact lit_done S tt (by rw [er]) (by rw [er] <;> rfl) rfl k
      | true =>
        have hd' : (s.commit d).isSome = true := hd
        rw [hd']
        refine itF (c := !true) rfl ?_
        rw [hc, hd, if_neg (by simp)] at er
        refine ⟨_, rfl, _, _, _, _, _, rfl, h1, (T.cls 145), (T.noat 150), F.cm, _, rfl, _, rfl, m.dc, kc, s, _, c, d, rfl, h2, C, G, hc', hd', fun H1 s1 => ⟨by show 1 ≤ sizeLine; decide, fun p np => ?_⟩⟩
        refine same_done (l := [(s.commonAncestor c d : Nat)]) S tt (by rw [er]) (by rw [er] <;> rfl) k (s1.trans (same_upd np)) (s1.free np) ?_
        rw [upd_same]
        rfl
theorem p32 : (2 : Int) ^ (32 : Int).toNat = 4294967296 := by decide
theorem sc_hash_of_commit : FnScope ["store", "given", "number", "high", "low"] ["store", "given"] (defScope s_hash_of_commit) := ⟨rfl, rfl, rfl, by decide +kernel, rfl, by decide +kernel, by decide +kernel⟩
theorem ok_hash_of_commit (T : Tx K mg) : Ok P w K mg ("hash_of_commit", none) ["store", "given"] 1 (spRun K g1 (fun _ => True) Operation.hash) := by
  refine T.ok (i := 75) (d := d_hash_of_commit) rfl rfl sc_hash_of_commit (fun vs H Q E h => ?_) (fun _ _ _ _ _ _ us hl => match us, hl with | [_, _], _ => rfl) (fun base tb cdv A outer s H vs Q E hr h => ?_)
  · obtain ⟨a, s, m, g, x, xs, rfl, _⟩ := h
    rfl
  · obtain ⟨a, s, m, g, x, xs, rfl, S, G, tt, hg, rfl, hx, k⟩ := h
    obtain ⟨⟨dx, fs, h1, F⟩, ⟨kc, h2, C⟩, ⟨kb, h3, B⟩, ⟨kt, h4, T'⟩, ⟨kw, h5, D⟩, A⟩ := id S
    obtain ⟨na, nb, nt, nw⟩ := S.ne_a
    have hu := hu_of hr
    refine ⟨_, (pss_cons (ps_set (i := 2) sc_hash_of_commit.nd rfl (by first | exact Or.inl rfl | exact Or.inr rfl) (pe_ix (kIxL (K := K) rfl) (pv 1) pe_int (fun _ _ => rfl)))
        (pss_cons (ps_if (pt_cmp (pc_dnotin hu (pv 2) (pe_fld (pv 0) rfl)))
          (pss_one (ps_ret (pe_lst (pa_cons (pe_gint (T.int 108) rfl) pa_nil)))) pss_nil)
        (pss_cons (ps_asg (pe_callB call_divmodW (by rfl) (T.free 85) (by decide +kernel) (pa_cons (pe_fld (pe_dget hu (pe_fld (pv 0) rfl) (pv 2) (fun _ _ => rfl)) rfl) (pa_cons (pe_op op_pow pe_int pe_int) pa_nil))) (pg_tup rfl (pgs_cons (pg_name (i := 3) sc_hash_of_commit.nd rfl (by first | exact Or.inl rfl | exact Or.inr rfl)) (pgs_cons (pg_name (i := 4) sc_hash_of_commit.nd rfl (by first | exact Or.inl rfl | exact Or.inr rfl)) pgs_nil))))
        (pss_one (ps_ret (pe_lst (pa_cons pe_int (pa_cons (pv 3) (pa_cons (pv 4) pa_nil))))))))), ?_⟩
    have er : s.run (.hash x) = if s.exists_ x = false then (s, .error (-2)) else (s, ⟨0, Kvg9.ints [s.hashes.getD x 0 / 2 ^ 32, s.hashes.getD x 0 % 2 ^ 32]⟩) := rfl
    refine ⟨_, rfl, g, _, _, _, rfl, rfl, SqL.of hg, atI_nat (j := 0) rfl, _, rfl, _, rfl, _, _, _, _, _, rfl, h1, (T.cls 145), (T.noat 150), F.cm, m.dc, _, rfl, DGet.k (k := kI x) h2, _, rfl, ?_⟩
    rw [C.isSome]
    cases hc : s.exists_ x with
    | false =>
      rw [show (s.commit x).isSome = false from hc]
      refine itT (c := !false) rfl ?_
      rw [if_pos hc] at er
      exact lit_done S tt (by rw [er]) (by rw [er] <;> rfl) rfl k
    | true =>
      have hx' : (s.commit x).isSome = true := hc
      rw [hx']
      refine itF (c := !true) rfl ?_
      rw [if_neg (by rw [hc]; simp)] at er
      obtain ⟨cm, hcm⟩ := Option.isSome_iff_exists.mp hx'
      obtain ⟨c, e1, e2⟩ := C.at_ _ _ hcm
      obtain ⟨dy, gs, p, d, g1, g2, g3, g4, g5, g6, g7, g8, g9⟩ := e2.ex
      have gd := DGet.k (k := kI x) h2
      rw [e1] at gd
      refine ⟨_, rfl, _, _, _, _, _, rfl, h1, (T.cls 145), (T.noat 150), F.cm, _, rfl, m.dc, .ref c, rfl, gd, c, _, _, _, _, rfl, g1, (T.cls 139), (T.noat 141), g4, ?_⟩
      refine ⟨2, 32, rfl, rfl, ⟨by decide, by decide, by decide⟩, ?_⟩
      generalize s.hashes.getD x 0 = hv at er
      refine ⟨_, _, rfl, ?_, fun t nt => ?_⟩
      · rw [p32]
        exact ⟨by decide, PyProof.noPylong_of_log2 (by decide)⟩
      have s1 := same_upd (o := .tup [.int ((hv : Int) / 2 ^ (32 : Int).toNat), .int ((hv : Int) % 2 ^ (32 : Int).toNat)]) nt
      refine ⟨t, _, rfl, SqT.of upd_same, rfl, _, _, rfl, _, _, rfl, rfl, ?_⟩
      refine ⟨_, rfl, _, rfl, by show 3 ≤ sizeLine; decide, fun p np => ?_⟩
      refine same_done (l := [0, ((hv / 2 ^ 32 : Nat) : Int), ((hv % 2 ^ 32 : Nat) : Int)]) S tt (by rw [er]) (by rw [er] <;> rfl) k (s1.trans (same_upd np)) (s1.free np) ?_
      rw [upd_same, p32]
      show some (HO.lst [_, V.int _, V.int _]) = some (HO.lst [_, V.int _, V.int _])
      congr 5
/-! ### garbage -/
def dropAll (kvs : List (Key × V)) (l : List Nat) : List (Key × V) := l.foldl (fun k n => dropK k (kI n)) kvs
theorem dropAll_snoc (kvs : List (Key × V)) (l : List Nat) (n : Nat) : dropAll kvs (l ++ [n]) = dropK (dropAll kvs l) (kI n) := by
  unfold dropAll
  rw [List.foldl_append]; rfl
theorem valV_dropAll (j : Nat) : ∀ (l : List Nat) (kvs : List (Key × V)), valV (dropAll kvs l) (kI j) = if j ∈ l then none else valV kvs (kI j)
  | [], kvs => by simp [dropAll]
  | n :: l, kvs => by
    have e : dropAll kvs (n :: l) = dropAll (dropK kvs (kI n)) l := rfl
    rw [e, valV_dropAll j l, valV_drop]
    by_cases h : j = n
    · rw [if_pos (kI_inj.mpr h)]
      simp [h]
    · rw [if_neg (fun z => h (kI_inj.mp z))]
      simp [h]
theorem keys_dropAll : ∀ (l : List Nat) {kvs : List (Key × V)} {F : List Nat}, kvs.map (·.1) = F.map kI → (dropAll kvs l).map (·.1) = (F.filter fun n => !decide (n ∈ l)).map kI
  | [], kvs, F, h => by
    rw [show dropAll kvs [] = kvs from rfl, h]
    congr 1
    exact (List.filter_eq_self.mpr fun n _ => by simp).symm
  | n :: l, kvs, F, h => by
    have e : dropAll kvs (n :: l) = dropAll (dropK kvs (kI n)) l := rfl
    have h2 : ∀ (kvs : List (Key × V)) (F : List Nat), kvs.map (·.1) = F.map kI → (dropK kvs (kI n)).map (·.1) = (F.filter fun m => decide (m ≠ n)).map kI := by
      intro kvs
      induction kvs with
      | nil =>
        intro F h
        cases F with
        | nil => rfl
        | cons _ _ => cases h
      | cons p kvs ih =>
        intro F h
        cases F with
        | nil => cases h
        | cons m F =>
          rw [List.map_cons, List.map_cons] at h
          obtain ⟨e1, e2⟩ := List.cons.inj h
          by_cases q : m = n
          · rw [dropK_pos (by rw [e1, q]), ih F e2, List.filter_cons]
            simp [q]
          · rw [dropK_neg (by rw [e1]; exact fun z => q (kI_inj.mp z)), List.map_cons, ih F e2, e1, List.filter_cons]
            simp [q]
    rw [e, keys_dropAll l (h2 kvs F h), List.filter_filter]
    congr 1
    refine List.filter_congr fun m _ => ?_
    by_cases q : m = n <;> by_cases r : m ∈ l <;> simp [q, r]
theorem live_is (s : Store) : live s = liveOf s.commits := rfl
theorem live_swept (s : Store) : live (swept s) = (live s).filter (keptB s) := by
  unfold live
  rw [swept_len, List.filter_filter]
  refine List.filter_congr fun n _ => ?_
  rw [swept_commit]
  cases keptB s n <;> simp
theorem live_nodup (s : Store) : (live s).Nodup := List.Pairwise.filter _ List.nodup_range
theorem part_len {α : Type} (p : α → Bool) : ∀ l : List α, (l.filter fun x => !p x).length = l.length - (l.filter p).length
  | [] => rfl
  | a :: l => by
    have h := part_len p l
    have h2 := List.length_filter_le p l
    rw [List.filter_cons, List.filter_cons]
    cases q : p a <;> simp [q, h] <;> omega
theorem StoreG.setCm {H : Hp} {a : Addr} {s : Store} {m : Mu} {kvs : List (Key × V)} {t : Store} (S : StoreAt K H a s m) (e1 : t.attributeCount = s.attributeCount) (e2 : t.commits.length = s.commits.length) (e3 : t.branches = s.branches) (e4 : t.tags = s.tags) (e5 : t.current = s.current) (e6 : t.working = s.working)
    (C : ComD K H (m.av a) kvs t) : StoreAt K (upd H m.dc (.dK kvs)) a t m := by
  obtain ⟨⟨dx, fs, h1, F⟩, ⟨kc, h2, _⟩, ⟨kb, h3, B⟩, ⟨kt, h4, T⟩, ⟨kw, h5, W⟩, A⟩ := id S
  obtain ⟨na, nb, nt, nw⟩ := S.ne_a
  obtain ⟨u, q1, q2, _⟩ := S.notTup (av_c (a := a) (m := m))
  refine ⟨⟨dx, fs, by rw [upd_ne na]; exact h1, ?_⟩, ⟨kvs, upd_same, C.keep (fun c x e hc _ => by rw [upd_ne (fun z => hc (by rw [z]; exact av_c))]; exact e) (Tup.upd q1 q2)⟩, ⟨kb, by rw [upd_ne A.cb.symm]; exact h3, e3 ▸ B⟩, ⟨kt, by rw [upd_ne A.ct.symm]; exact h4, e4 ▸ T⟩, ⟨kw, by rw [upd_ne A.cw.symm]; exact h5, e6 ▸ S.ver_upd av_c W⟩, A⟩
  rw [e1, e2, e5]
  exact F
theorem sc_collect_garbage : FnScope ["store", "given", "kept", "removed", "number"] ["store", "given"] (defScope s_collect_garbage) := ⟨rfl, rfl, rfl, by decide +kernel, rfl, by decide +kernel, by decide +kernel⟩
theorem ok_collect_garbage (T : Tx K mg) : Ok P w K mg ("collect_garbage", none) ["store", "given"] 3 (spRun K g0 (fun _ => True) (fun _ => Operation.collectGarbage)) := by
  refine T.ok (i := 14) (d := d_collect_garbage) rfl rfl sc_collect_garbage (fun vs H Q E h => ?_) (fun _ _ _ _ _ _ us hl => match us, hl with | [_, _], _ => rfl) (fun base tb cdv A outer s H vs Q E hr h => ?_)
  · obtain ⟨a, s, m, g, x, xs, rfl, _⟩ := h
    rfl
  · obtain ⟨a, s, m, g, x, xs, rfl, S, G, tt, hg, rfl, hx, k⟩ := h
    obtain ⟨⟨dx, fs, h1, F⟩, ⟨kc, h2, C⟩, ⟨kb, h3, B⟩, ⟨kt, h4, T'⟩, ⟨kw, h5, D⟩, A⟩ := id S
    obtain ⟨na, nb, nt, nw⟩ := S.ne_a
    have hu := hu_of hr
    refine ⟨_, (pss_cons (ps_set (i := 2) sc_collect_garbage.nd rfl (by first | exact Or.inl rfl | exact Or.inr rfl) (pe_callO (ok_reachable T) tb (T.glo 4) hr rfl (pa_cons (pe_fld (pv 0) rfl) (pa_cons (pe_methO0 (pv 0) (ok_Store_named_commits T) tb (T.cls 145) (T.meth 159) hr) pa_nil))))
        (pss_cons (ps_lock (ps_setLc (i := 3) (own := [("number", 4)]) rfl sc_collect_garbage.nd rfl rfl (sw_true rfl rfl rfl (by decide +kernel)) (pi_keys (pe_fld (pv 0) rfl)) (blkOk_by (N := ["store", "given", "kept", "removed", "number"]) (sc := defScope s_collect_garbage) (by decide +kernel)) (fun _ _ _ _ _ => (pg_name (i := 4) sc_collect_garbage.nd rfl (by first | exact Or.inl rfl | exact Or.inr rfl))) (fun _ _ _ _ _ => (pts_one (pt_cmp (pc_dnotin hu (pv 4) (pv 2))))) (fun _ _ _ _ _ => (pv 4))))
        (pss_cons (ps_for PassesOwn.never rfl (kPiL (K := K) rfl (pv 3)) (pg_name (i := 4) sc_collect_garbage.nd rfl (by first | exact Or.inl rfl | exact Or.inr rfl))
          (pss_one (ps_expr (pe_dpop1 (pe_fld (pv 0) rfl) (pv 4) ⟨by rfl, by rfl, by rfl, by rfl⟩))))
        (pss_one (ps_ret (pe_lst (pa_cons (pe_callB (kLen (K := K) rfl) (by rfl) (T.free 87) PySem.boot_len (pa_cons (pv 3) pa_nil)) pa_nil))))))), ?_⟩
    have er := garbage_run s
    dsimp only at k
    refine ⟨_, rfl, _, _, _, _, _, rfl, h1, (T.cls 145), (T.noat 150), F.cm, _, rfl, a, dx, _, rfl, h1, F.only ("named_commits" : Str) (by decide +kernel), a, s, m, _, rfl, S, G, fun H1 p L s1 np hp hL => ?_⟩
    have hlv : ∀ x ∈ L, (s.commit x).isSome = true := fun x hx => by
      obtain ⟨e, he, rfl⟩ := (hL x).mp hx
      rcases he with he | he
      · exact (G.br.at_ e he).1
      · exact (G.tg.at_ e he).1
    refine ⟨m.dc, p, kc, s, _, L, rfl, s1 _ _ h2, C.same s1, G, hp, hlv, fun H2 f kf FF s2 nf hf hk hm => ?_⟩
    have s12 := s1.trans s2
    have h2' := s12 _ _ h2
    have ncf : m.dc ≠ f := ne_of_none (s1 _ _ h2) nf
    have hkept : ∀ n, decide (n ∈ FF) = keptB s n := fun n => by
      have : n ∈ FF ↔ keptB s n = true := by
        rw [hm, keptB_iff G]
        constructor
        · rintro ⟨y, hy, r⟩
          obtain ⟨e, he, q⟩ := (hL y).mp hy
          exact ⟨e, he, q ▸ r⟩
        · rintro ⟨e, he, r⟩
          exact ⟨e.2, (hL e.2).mpr ⟨e, he, rfl⟩, r⟩
      by_cases q : n ∈ FF
      · rw [decide_eq_true q, this.mp q]
      · rw [decide_eq_false q]
        cases e : keptB s n with
        | false => rfl
        | true => exact absurd (this.mpr e) q
    -- the numbers that go
    refine ⟨m.dc, .dK kc, h2', trivial, fun od => ?_⟩
    have kl : kc.length = (live s).length := keys_len C.keys
    have ll : (live s).length ≤ 40 := by
      have h0 : (live s).length ≤ s.commits.length := by
        unfold live
        have := List.length_filter_le (fun n => (s.commit n).isSome) (List.range s.commits.length)
        rw [List.length_range] at this
        exact this
      exact Nat.le_trans h0 G.n1
    have hfl : (upd H2 m.dc (.frz od (.dK kc))) m.dc = some (.frz od (.dK kc)) := upd_same
    have h1l : (upd H2 m.dc (.frz od (.dK kc))) a = some (.ins (cSto K) dx fs) := by rw [upd_ne na]; exact s12 _ _ h1
    have hff : (upd H2 m.dc (.frz od (.dK kc))) f = some (.dK kf) := by rw [upd_ne ncf.symm]; exact hf
    have sl : ∀ b o, H2 b = some o → b ≠ m.dc → (upd H2 m.dc (.frz od (.dK kc))) b = some o := fun b o hb n => by rw [upd_ne n]; exact hb
    have al : ∀ b, (upd H2 m.dc (.frz od (.dK kc))) b = none → H2 b = none := fun b hb => by
      by_cases n : b = m.dc
      · rw [n, upd_same] at hb; cases hb
      · rw [upd_ne n] at hb; exact hb
    generalize upd H2 m.dc (.frz od (.dK kc)) = Hl at hfl h1l hff sl al ⊢
    refine ⟨_, rfl, _, _, _, _, _, rfl, h1l, (T.cls 145), (T.noat 150), F.cm, m.dc, od, rfl, .inl ⟨kc, hfl, ?_⟩⟩
    refine fun D nD => lc_any (n := (live s).length) (LcP Hl D (fun i acc _ => acc = (((live s).take i).filter fun n => !keptB s n).map vN)) (LcP.start nD rfl) (fun i H3 hi p => ⟨p.1 _ _ hfl, by omega⟩) (fun H3 p => ⟨p.1 _ _ hfl, by omega⟩) ?_ ?_
    · rintro i x H3 H3' hi ⟨s3, acc, hD, hA, r⟩ ⟨rfl, kk, v, e1, rfl⟩
      obtain ⟨n, en⟩ : ∃ n, (live s)[i]? = some n := ⟨_, List.getElem?_eq_getElem hi⟩
      have ek : kk = kI n := by
        have := congrArg (fun l => l[i]?) C.keys
        simp only [List.getElem?_map, e1, en, Option.map_some] at this
        exact Option.some.inj this
      subst ek
      refine ⟨rfl, ?_⟩
      refine ⟨_, rfl, _, rfl, f, _, rfl, DGet.k (k := kI n) (s3 _ _ hff), _, rfl, ?_⟩
      rw [keys_some hk, hkept]
      cases q : keptB s n with
      | true =>
        refine itF rfl ?_
        refine LcP.skip s3 hD hA (Same.refl _) ?_
        show acc = _
        rw [show acc = _ from r, take_snoc en, List.filter_append, List.filter_cons, q]
        simp
      | false =>
        refine itT rfl ?_
        refine ⟨_, rfl, LcP.put (n := 1000) nD s3 hD hA (Same.refl _) (by omega) ?_⟩
        show acc ++ [_] = _
        rw [show acc = _ from r, take_snoc en, List.filter_append, List.filter_cons, q]
        simp
        rfl
    · rintro H3 ⟨s3, acc, hD, hA, r⟩
      have r : acc = (((live s).take (live s).length).filter fun n => !keptB s n).map vN := r
      rw [List.take_length] at r
      refine ⟨s3 _ _ hfl, ?_⟩
      have ncD : m.dc ≠ D := ne_of_none hfl nD
      have sR : Same H2 (upd H3 m.dc (.dK kc)) := fun b o hb => by
        by_cases n : b = m.dc
        · rw [n, upd_same, ← h2', ← n]; exact hb
        · rw [upd_ne n]; exact s3 _ _ (sl b o hb n)
      have hDR : (upd H3 m.dc (.dK kc)) D = some (.lst (((live s).filter fun n => !keptB s n).map vN)) := by rw [upd_ne ncD.symm, hD, r]
      have nDH : H D = none := s12.free (al D nD)
      have sA := s12.trans sR
      have S1 := S.same sA
      have hDa : D ∉ m.av a := not_av S nDH
      have h1R := sA _ _ h1
      generalize upd H3 m.dc (.dK kc) = HR at sR hDR sA S1 h1R ⊢
      generalize eR : (live s).filter (fun n => !keptB s n) = R at hDR
      have ndR : R.Nodup := eR ▸ List.Pairwise.filter _ (live_nodup s)
      have memR : ∀ n ∈ R, n ∈ live s := fun n hn => by rw [← eR] at hn; exact (List.mem_filter.mp hn).1
      refine ⟨_, rfl, D, rfl, ⟨_, SqL.of hDR⟩, for_list (K := K) (a := D) (xs := R.map vN) (fun i σ H4 => ∃ v : Option V, σ = [some (.ref a), some (.ref g), some (.ref f), some (.ref D), v] ∧ H4 = upd HR m.dc (.dK (dropAll kc (R.take i)))) ?_ (fun i σ H4 _ ⟨_, _, e⟩ => SqL.of (by rw [e, upd_ne ncD.symm]; exact hDR)) ?_ ?_⟩
      · refine ⟨none, rfl, ?_⟩
        funext b
        by_cases n : b = m.dc
        · rw [n, upd_same]; exact sA _ _ h2
        · rw [upd_ne n]
      · rintro i x σ H4 hi ⟨v, rfl, rfl⟩
        obtain ⟨n, e, rfl⟩ := nth_map hi
        have h1'' : (upd HR m.dc (.dK (dropAll kc (R.take i)))) a = some (.ins (cSto K) dx fs) := by rw [upd_ne na]; exact h1R
        have hn : n ∉ R.take i := fun z => by
          obtain ⟨j, hj⟩ := List.mem_iff_getElem?.mp z
          have hji : j < i := by
            have := (List.getElem?_eq_some_iff.mp hj).1
            rw [List.length_take] at this
            omega
          rw [List.getElem?_take, if_pos hji] at hj
          have := (List.getElem?_inj (List.getElem?_eq_some_iff.mp hj).1 ndR).mp (hj.trans e.symm)
          omega
        have hl := memR n (List.mem_of_getElem? e)
        obtain ⟨cm, hcm⟩ := Option.isSome_iff_exists.mp (List.mem_filter.mp hl).2
        obtain ⟨c, c1, c2⟩ := C.at_ n cm hcm
        have hv : valV (dropAll kc (R.take i)) (kI n) = some (.ref c) := by rw [valV_dropAll, if_neg hn, c1]
        refine ⟨_, rfl, _, _, _, _, _, rfl, h1'', (T.cls 145), (T.noat 150), F.cm, m.dc, rfl, .inl ⟨_, .inl upd_same⟩, _, rfl, _, kI n, _, upd_same, rfl, hv, ?_⟩
        refine ⟨some (vN n), rfl, ?_⟩
        rw [take_snoc e, dropAll_snoc]
        funext b
        by_cases q : b = m.dc
        · rw [q, upd_same, upd_same]
        · rw [upd_ne q, upd_ne q, upd_ne q]
      · rintro σ H4 ⟨v, rfl, rfl⟩
        rw [List.length_map, List.take_length]
        have hkeys : (dropAll kc R).map (·.1) = (live (swept s)).map kI := by
          rw [keys_dropAll R C.keys, live_swept]
          congr 1
          refine List.filter_congr fun n hn => ?_
          rw [← eR]
          cases q : keptB s n with
          | true => simp [q]
          | false => simp [q, hn]
        have CS : ComD K HR (m.av a) (dropAll kc R) (swept s) := by
          refine ⟨hkeys, fun n cm hn => ?_⟩
          obtain ⟨h0, hq⟩ := swept_sub hn
          obtain ⟨c, c1, c2⟩ := C.at_ n cm h0
          refine ⟨c, ?_, ?_⟩
          · rw [valV_dropAll, if_neg (fun z => ?_), c1]
            rw [← eR] at z
            have := (List.mem_filter.mp z).2
            rw [hq] at this
            cases this
          · rw [swept_hash G hn]
            exact c2.keep (fun b o q _ _ => sA b o q) (Tup.of sA)
        have S2 := S1.setCm (t := swept s) (kvs := dropAll kc R) rfl (swept_len s) rfl rfl rfl rfl CS
        have hD5 : (upd HR m.dc (.dK (dropAll kc R))) D = some (.lst (R.map vN)) := by rw [upd_ne ncD.symm]; exact hDR
        refine ⟨_, rfl, D, _, rfl, .inl (SqL.of hD5), ?_⟩
        refine new_done (s' := swept s) S tt S2 ((Fr.of_same sA).trans (Fr.upd av_c)) (by rw [er]) (by rw [er] <;> rfl) ?_ k
        rw [List.length_map, liveOf_len, liveOf_len, ← live_is, ← live_is, live_swept, ← part_len, eR]
        rfl
end Pv
end
section
set_option Elab.async false
set_option linter.all false
set_option maxRecDepth 100000
set_option maxHeartbeats 2000000
namespace Pv
open PySem PySem.Spec PyProof.Rows L2 Kvg9
open L2 (Dp DpAll)
variable {P : Program} {w : World} {K : PySem.W.Frag} {mg : Str → Option Value}
abbrev sideI (b : Bool) : Int := if b then 1 else 0
/-- three values by data -/
structure Tri {α : Type} [DecidableEq α] (K : PySem.W.Frag) (H : Hp) (e : α → PyData) (b o t : α) (x y z : V) : Prop where
  x : Dp K H x (e b)
  y : Dp K H y (e o)
  z : Dp K H z (e t)
  sb : SeqAt.shaped (e b) = true
  so : SeqAt.shaped (e o) = true
  st : SeqAt.shaped (e t) = true
  ot : PyData.eqv (e o) (e t) = decide (o = t)
  bt : PyData.eqv (e b) (e t) = decide (b = t)
  bo : PyData.eqv (e b) (e o) = decide (b = o)
theorem Tri.enc {α : Type} [DecidableEq α] {H : Hp} {e : α → PyData} (E : Enc e) {b o t : α} {x y z : V} (hx : Dp K H x (e b)) (hy : Dp K H y (e o)) (hz : Dp K H z (e t)) : Tri K H e b o t x y z := ⟨hx, hy, hz, E.sh _, E.sh _, E.sh _, E.eqd _ _, E.eqd _ _, E.eqd _ _⟩
def spMv (K : PySem.W.Frag) : Sp := fun vs H Q _ => ∃ (α : Type) (_ : DecidableEq α) (e : α → PyData) (b o t : α) (x y z : V) (side : Bool), vs = [x, y, z, .int (sideI side)] ∧ Tri K H e b o t x y z ∧
  ∀ p r, (r = y ∨ r = z) → Dp K H r (e (mVal side b o t)) → H p = none → Q (.ref p) (upd H p (.tup [.bl (mergeValue b o t).isSome, r]))
theorem sc_merge_value : FnScope ["base", "ours", "theirs", "side"] ["base", "ours", "theirs", "side"] (defScope s_merge_value) := ⟨rfl, rfl, rfl, by decide +kernel, rfl, by decide +kernel, by decide +kernel⟩
theorem ok_merge_value (T : Tx K mg) : Ok P w K mg ("merge_value", none) ["base", "ours", "theirs", "side"] 1 (spMv K) := by
  refine T.ok (i := 46) (d := d_merge_value) rfl rfl sc_merge_value (fun vs H Q E h => ?_) (fun _ _ _ _ _ _ us hl => match us, hl with | [_, _, _, _], _ => rfl) (fun base tb cdv A outer s H vs Q E hr h => ?_)
  · obtain ⟨α, _, e, b, o, t, x, y, z, side, rfl, _⟩ := h
    rfl
  · obtain ⟨α, _, e, b, o, t, x, y, z, side, rfl, D, k⟩ := h
    have two : 2 ≤ sizeLine := by decide
    have hu := hu_of hr
    have hu64 := hr.units
    refine ⟨_, (pss_cons (ps_if (PW.pt (pw_or (pt_cmpR (kEqD (K := K) rfl hu64) (pv 1) (pv 2) (nomark _)) (pw_or1 (pt_cmpR (kEqD (K := K) rfl hu64) (pv 0) (pv 2) (nomark _)))))
          (pss_one (ps_ret (pe_tup (pa_cons pe_bl (pa_cons (pv 1) pa_nil))))) pss_nil)
        (pss_cons (ps_if (pt_cmpR (kEqD (K := K) rfl hu64) (pv 0) (pv 1) (nomark _))
          (pss_one (ps_ret (pe_tup (pa_cons pe_bl (pa_cons (pv 2) pa_nil))))) pss_nil)
        (pss_one (ps_ret (pe_tup (pa_cons pe_bl (pa_cons (pe_ifExp (pt_cmpR op_eq (pv 3) (pe_gint (T.int 124) rfl) (nomark _)) (pv 1) (pv 2)) pa_nil))))))), ?_⟩
    refine ⟨_, rfl, _, rfl, _, _, D.y, D.z, D.so, D.st, _, rfl, ?_⟩
    rw [D.ot]
    by_cases h1 : o = t
    · refine itT (decide_eq_true h1) ?_
      have e1 := mv_1 (b := b) (.inl h1)
      refine ⟨_, rfl, two, fun p np => ?_⟩
      have := k p y (.inl rfl) (by unfold mVal; rw [e1]; exact D.y) np
      rw [e1] at this
      exact this
    · refine itF (decide_eq_false h1) ?_
      refine ⟨_, rfl, _, rfl, _, _, D.x, D.z, D.sb, D.st, _, rfl, ?_⟩
      rw [D.bt]
      by_cases h2 : b = t
      · refine itT (decide_eq_true h2) ?_
        have e1 := mv_1 (o := o) (.inr h2)
        refine ⟨_, rfl, two, fun p np => ?_⟩
        have := k p y (.inl rfl) (by unfold mVal; rw [e1]; exact D.y) np
        rw [e1] at this
        exact this
      · refine itF (decide_eq_false h2) ?_
        refine ⟨_, rfl, _, rfl, _, _, D.x, D.y, D.sb, D.so, _, rfl, ?_⟩
        rw [D.bo]
        by_cases h3 : b = o
        · refine itT (decide_eq_true h3) ?_
          have e1 := mv_2 h1 h3
          refine ⟨_, rfl, two, fun p np => ?_⟩
          have := k p z (.inr rfl) (by unfold mVal; rw [e1]; exact D.z) np
          rw [e1] at this
          exact this
        · refine itF (decide_eq_false h3) ?_
          have e1 := mv_3 h1 h2 h3
          rw [e1] at k
          refine ⟨_, rfl, rfl, _, rfl, ?_⟩
          cases side with
          | false =>
            refine itT rfl ?_
            exact ⟨_, rfl, two, fun p np => k p y (.inl rfl) (by unfold mVal; rw [e1]; exact D.y) np⟩
          | true =>
            refine itF rfl ?_
            exact ⟨_, rfl, two, fun p np => k p z (.inr rfl) (by unfold mVal; rw [e1]; exact D.z) np⟩
theorem kPgT {X : Cx} (hK : X.K = K) {es : List Expr} {k : Nat} {pos : Pos} {t : TGs} {n : Nat} (hc : X.calm = true) (h : PGs X es t) (hn : (assignEach es X.env).length = n := by rfl) (hst : (assignEach es X.env).findIdx? (·.1) = none := by rfl) : PG X (.Tuple es k pos) (gTup K n t) := by subst hK; exact pg_tup hc h hn hst
def spMo (K : PySem.W.Frag) : Sp := fun vs H Q _ => ∃ (α : Type) (_ : DecidableEq α) (e : α → PyData) (zero : α) (bs os ts : List α) (a b c : Addr) (xs ys zs : List V) (side : Bool) (kind : Nat), vs = [.ref a, .ref b, .ref c, .int (sideI side), vN kind] ∧ Enc e ∧ (∀ a, noL (e a) = true) ∧
  SqT K H a xs ∧ DpAll K H xs (bs.map e) ∧ SqT K H b ys ∧ DpAll K H ys (os.map e) ∧ SqT K H c zs ∧ DpAll K H zs (ts.map e) ∧ os.length = bs.length ∧ ts.length = bs.length ∧ bs.length ≤ 12 ∧
  ∀ (H' : Hp) (p q l : Addr) (us rs : List V), Same H H' → H p = none → H' p = some (.tup [.ref q, .ref l]) → SqT K H' q us → DpAll K H' us ((mUp side bs os ts zero bs.length).map e) → H l = none → H' l = some (.lst rs) → RowsN H' rs ((cUp bs os ts zero bs.length).map fun i : Nat => [(kind : Int), (i : Int)]) → Q (.ref p) H'
theorem RowsN.len {H : Hp} {xs : List V} {rs : List (List Int)} (h : RowsN H xs rs) : xs.length = rs.length := Paired.length h
theorem getD_at {α : Type} {l : List α} {i : Nat} {z : α} (h : i < l.length) : l[i]? = some (l.getD i z) := by
  rw [List.getD_eq_getElem?_getD, List.getElem?_eq_getElem h]; rfl
theorem DpAll.get {α : Type} {H : Hp} {e : α → PyData} {xs : List V} {l : List α} (h : DpAll K H xs (l.map e)) {i : Nat} (hi : i < l.length) (z : α) : ∃ v, xs[i]? = some v ∧ Dp K H v (e (l.getD i z)) :=
  DpAll.at h (by rw [List.getElem?_map, getD_at hi (z := z)]; rfl)
theorem sc_merge_one_by_one : FnScope ["base", "ours", "theirs", "side", "kind", "merged", "conflicts", "index", "before", "is_merged", "value"] ["base", "ours", "theirs", "side", "kind"] (defScope s_merge_one_by_one) := ⟨rfl, rfl, rfl, by decide +kernel, rfl, by decide +kernel, by decide +kernel⟩
theorem ok_merge_one_by_one (T : Tx K mg) : Ok P w K mg ("merge_one_by_one", none) ["base", "ours", "theirs", "side", "kind"] 2 (spMo K) := by
  refine T.ok (i := 45) (d := d_merge_one_by_one) rfl rfl sc_merge_one_by_one (fun vs H Q E h => ?_) (fun _ _ _ _ _ _ us hl => match us, hl with | [_, _, _, _, _], _ => rfl) (fun base tb cdv A outer s H vs Q E hr h => ?_)
  · obtain ⟨α, _, e, zero, bs, os, ts, a, b, c, xs, ys, zs, side, kind, rfl, _⟩ := h
    rfl
  · obtain ⟨α, _, e, zero, bs, os, ts, a, b, c, xs, ys, zs, side, kind, rfl, E, nl, ta, da, tb', db, tc, dc, lo, lt, l12, k⟩ := h
    have two : 2 ≤ sizeLine := by decide
    have lx : xs.length = bs.length := by rw [DpAll.len da, List.length_map]
    have hu := hu_of hr
    refine ⟨_, (pss_cons (ps_set (i := 5) sc_merge_one_by_one.nd rfl (by first | exact Or.inl rfl | exact Or.inr rfl) (pe_lst pa_nil))
        (pss_cons (ps_set (i := 6) sc_merge_one_by_one.nd rfl (by first | exact Or.inl rfl | exact Or.inr rfl) (pe_lst pa_nil))
        (pss_cons (ps_for PassesOwn.never rfl (kEnumT (K := K) rfl (by rfl) (T.free 86) (pa_cons (pv 0) pa_nil)) (pg_tup rfl (pgs_cons (pg_name (i := 7) sc_merge_one_by_one.nd rfl (by first | exact Or.inl rfl | exact Or.inr rfl)) (pgs_cons (pg_name (i := 8) sc_merge_one_by_one.nd rfl (by first | exact Or.inl rfl | exact Or.inr rfl)) pgs_nil)))
          (pss_cons (ps_asg (pe_callO (ok_merge_value T) tb (T.glo 46) hr rfl (pa_cons (pv 8) (pa_cons (pe_ix (kIxT (K := K) rfl) (pv 1) (pv 7) (fun _ _ => rfl)) (pa_cons (pe_ix (kIxT (K := K) rfl) (pv 2) (pv 7) (fun _ _ => rfl)) (pa_cons (pv 3) pa_nil))))) (pg_tup rfl (pgs_cons (pg_name (i := 9) sc_merge_one_by_one.nd rfl (by first | exact Or.inl rfl | exact Or.inr rfl)) (pgs_cons (pg_name (i := 10) sc_merge_one_by_one.nd rfl (by first | exact Or.inl rfl | exact Or.inr rfl)) pgs_nil))))
        (pss_cons (ps_expr (pe_bm PySem.F.plainAttrs_list PySem.F.slot_list_append PySem.F.type_list_append mt_append (pv 5) (pa_cons (pv 10) pa_nil)))
        (pss_one (ps_if (pt_not (pt_val (pv 9)))
          (pss_one (ps_expr (pe_bm PySem.F.plainAttrs_list PySem.F.slot_list_append PySem.F.type_list_append mt_append (pv 6) (pa_cons (pe_tup (pa_cons (pv 4) (pa_cons (pv 7) pa_nil))) pa_nil)))) pss_nil)))))
        (pss_one (ps_ret (pe_tup (pa_cons (pe_callTy (kToT (K := K) rfl) (by rfl) (T.free 94) (by decide +kernel) (pa_cons (pv 5) pa_nil)) (pa_cons (pv 6) pa_nil)))))))), ?_⟩
    refine ⟨by show 0 ≤ sizeLine; decide, fun M nM => ⟨by show 0 ≤ sizeLine; decide, fun C nC => ?_⟩⟩
    have s1 := same_upd (o := .lst []) nM
    have s2 := same_upd (o := .lst []) nC
    have nC0 : H C = none := s1.free nC
    have nMC : M ≠ C := ne_of_none upd_same nC
    have s12 := s1.trans s2
    refine ⟨_, rfl, a, xs, rfl, ta.same s12, ?_⟩
    refine for_any (n := bs.length) (fun i σ H1 => ∃ (v7 v8 v9 v10 : Option V) (acc cs : List V), σ = [some (.ref a), some (.ref b), some (.ref c), some (.int (sideI side)), some (vN kind), some (.ref M), some (.ref C), v7, v8, v9, v10] ∧ Same H H1 ∧ H1 M = some (.lst acc) ∧ DpAll K H1 acc ((mUp side bs os ts zero i).map e) ∧ H1 C = some (.lst cs) ∧ RowsN H1 cs ((cUp bs os ts zero i).map fun i : Nat => [(kind : Int), (i : Int)]))
      ⟨none, none, none, none, [], [], rfl, s12, s2 _ _ upd_same, .nil, upd_same, .nil⟩ ?_ ?_ ?_ ?_
    · rintro i σ H1 hi ⟨_, _, _, _, _, _, _, s, _⟩
      exact ⟨_, _, ta.same s, List.getElem?_eq_getElem (by omega)⟩
    · rintro σ H1 ⟨_, _, _, _, _, _, _, s, _⟩
      exact ⟨_, ta.same s, by omega⟩
    · rintro i x σ H1 H1' hi ⟨v7, v8, v9, v10, acc, cs, rfl, s, hM, dM, hC, dC⟩ ⟨T, z, rfl, nT, rfl, hz⟩
      have hz := hz _ (ta.same s)
      have sT := same_upd (o := .tup [.int (i : Nat), z]) nT
      have sA := s.trans sT
      obtain ⟨y1, f1, d1⟩ := DpAll.get db (show i < os.length by omega) zero
      obtain ⟨y2, f2, d2⟩ := DpAll.get dc (show i < ts.length by omega) zero
      obtain ⟨y0, f0, d0⟩ := DpAll.get da hi zero
      obtain rfl : y0 = z := Option.some.inj (f0.symm.trans hz)
      have tp : ∀ {x : V} {q : α} {H' : Hp}, Same H H' → Dp K H x (e q) → Dp K H' x (e q) := fun s d => DpT.tup (Tup.of s) _ _ (nl _) d
      refine ⟨T, _, rfl, SqT.of upd_same, rfl, _, _, rfl, _, _, rfl, rfl, ?_⟩
      refine ⟨_, rfl, _, rfl, _, rfl, b, _, _, _, rfl, rfl, tb'.same sA, atI_nat f1, _, rfl, _, rfl, c, _, _, _, rfl, rfl, tc.same sA, atI_nat f2, _, rfl, ?_⟩
      refine ⟨α, _, e, bs.getD i zero, os.getD i zero, ts.getD i zero, y0, y1, y2, side, rfl, Tri.enc E (tp sA d0) (tp sA d1) (tp sA d2), fun p r _ hr np => ?_⟩
      have sp := same_upd (o := .tup [.bl (mergeValue (bs.getD i zero) (os.getD i zero) (ts.getD i zero)).isSome, r]) np
      have sB := sA.trans sp
      have hM2 := sp _ _ (sT _ _ hM)
      have hC2 := sp _ _ (sT _ _ hC)
      refine ⟨p, _, rfl, SqT.of upd_same, rfl, _, _, rfl, _, _, rfl, rfl, ?_⟩
      have la : acc.length = i := by rw [DpAll.len dM, List.length_map, mUp_len]
      refine ⟨_, rfl, .inl ⟨rfl, _, SqL.of hM2⟩, _, rfl, M, _, _, rfl, rfl, hM2, small (m := 100) (by omega), ?_⟩
      have t3 : Tup (upd (upd H1 T (.tup [.int (i : Nat), y0])) p (.tup [.bl (mergeValue (bs.getD i zero) (os.getD i zero) (ts.getD i zero)).isSome, r])) (upd (upd (upd H1 T (.tup [.int (i : Nat), y0])) p (.tup [.bl (mergeValue (bs.getD i zero) (os.getD i zero) (ts.getD i zero)).isSome, r])) M (.lst (acc ++ [r]))) := tup_upd_lst hM2
      have hM3 : (upd (upd (upd H1 T (.tup [.int (i : Nat), y0])) p (.tup [.bl (mergeValue (bs.getD i zero) (os.getD i zero) (ts.getD i zero)).isSome, r])) M (.lst (acc ++ [r]))) M = some (.lst (acc ++ [r])) := upd_same
      have hC3 : (upd (upd (upd H1 T (.tup [.int (i : Nat), y0])) p (.tup [.bl (mergeValue (bs.getD i zero) (os.getD i zero) (ts.getD i zero)).isSome, r])) M (.lst (acc ++ [r]))) C = some (.lst cs) := by rw [upd_ne nMC.symm]; exact hC2
      have sC : Same H (upd (upd (upd H1 T (.tup [.int (i : Nat), y0])) p (.tup [.bl (mergeValue (bs.getD i zero) (os.getD i zero) (ts.getD i zero)).isSome, r])) M (.lst (acc ++ [r]))) := fun b o hb => by
        rw [upd_ne (ne_of_none hb nM)]; exact sB _ _ hb
      have tA : Tup H1 (upd (upd (upd H1 T (.tup [.int (i : Nat), y0])) p (.tup [.bl (mergeValue (bs.getD i zero) (os.getD i zero) (ts.getD i zero)).isSome, r])) M (.lst (acc ++ [r]))) := (Tup.of (sT.trans sp)).trans t3
      have dM3 : DpAll K (upd (upd (upd H1 T (.tup [.int (i : Nat), y0])) p (.tup [.bl (mergeValue (bs.getD i zero) (os.getD i zero) (ts.getD i zero)).isSome, r])) M (.lst (acc ++ [r]))) (acc ++ [r]) ((mUp side bs os ts zero (i + 1)).map e) := by
        rw [mUp_succ, List.map_append]
        exact DpAll.snoc (DpAllT.tup tA _ _ (noLs_map nl _) dM) (DpT.tup ((Tup.of sp).trans t3) _ _ (nl _) hr)
      have dC3 := RowsN.same tA dC
      generalize upd (upd (upd H1 T (.tup [.int (i : Nat), y0])) p (.tup [.bl (mergeValue (bs.getD i zero) (os.getD i zero) (ts.getD i zero)).isSome, r])) M (.lst (acc ++ [r])) = H3 at hM3 hC3 sC tA dM3 dC3 ⊢
      refine ⟨_, rfl, _, rfl, ?_⟩
      cases hmv : mergeValue (bs.getD i zero) (os.getD i zero) (ts.getD i zero) with
      | some mv =>
        refine itF rfl ?_
        refine ⟨_, _, _, _, _, cs, rfl, sC, hM3, dM3, hC3, ?_⟩
        rw [cUp_succ, show (mAt bs os ts zero i).isNone = false by unfold mAt; rw [hmv]; rfl]
        simpa using dC3
      | none =>
        refine itT rfl ?_
        have lc : cs.length ≤ i := by
          rw [dC.len, List.length_map]
          exact cUp_len _ _ _ _ _
        refine ⟨_, rfl, .inl ⟨rfl, _, SqL.of hC3⟩, _, rfl, _, rfl, two, fun u nu => ?_⟩
        have su := same_upd (o := .tup [vN kind, vN i]) nu
        have hC4 := su _ _ hC3
        refine ⟨C, _, _, rfl, rfl, hC4, small (m := 100) (by omega), ?_⟩
        have t4 : Tup H3 (upd (upd H3 u (.tup [vN kind, vN i])) C (.lst (cs ++ [.ref u]))) := (Tup.of su).trans (tup_upd_lst hC4)
        have nuC : u ≠ C := fun z => by rw [z, hC3] at nu; cases nu
        refine ⟨_, _, _, _, _, cs ++ [.ref u], rfl, fun b o hb => ?_, ?_, DpAllT.tup t4 _ _ (noLs_map nl _) dM3, upd_same, ?_⟩
        · rw [upd_ne (ne_of_none hb nC0)]; exact su _ _ (sC _ _ hb)
        · rw [upd_ne nMC]; exact su _ _ hM3
        · rw [cUp_succ, show (mAt bs os ts zero i).isNone = true by unfold mAt; rw [hmv]; rfl, if_pos rfl, List.map_append]
          exact RowsN.snoc (RowsN.same t4 dC3) (by rw [upd_ne nuC, upd_same]; rfl)
    · rintro σ H1 ⟨v7, v8, v9, v10, acc, cs, rfl, s, hM, dM, hC, dC⟩
      refine ⟨_, rfl, M, _, rfl, .inl ⟨SqL.of hM, fun t nt => ⟨_, rfl, two, fun p np => ?_⟩⟩⟩
      have st := same_upd (o := .tup acc) nt
      have sp := same_upd (o := .tup [.ref t, .ref C]) np
      have sA := s.trans (st.trans sp)
      have tA := Tup.of (st.trans sp)
      exact k _ p t C acc cs sA ((s.trans st).free np) upd_same (SqT.of (sp _ _ upd_same)) (DpAllT.tup tA _ _ (noLs_map nl _) dM) nC0 (sp _ _ (st _ _ hC)) (RowsN.same tA dC)
end Pv
end
section
set_option Elab.async false
set_option linter.all false
set_option maxRecDepth 100000
set_option maxHeartbeats 2000000
namespace Pv
open PySem PySem.Spec PyProof.Rows L2 Kvg9
open L2 (Dp DpAll)
variable {P : Program} {w : World} {K : PySem.W.Frag} {mg : Str → Option Value}
abbrev kiRows (l : List (Nat × Nat)) : List (List Int) := l.map fun c => [(c.1 : Int), (c.2 : Int)]
/-- a pair is handed back: data, and a new list of conflicts -/
def OutP (K : PySem.W.Frag) (H : Hp) (Q : VK) (d : PyData) (cs : List (Nat × Nat)) : Prop := ∀ (H' : Hp) (p l : Addr) (r : V) (rs : List V), Same H H' → H p = none → H' p = some (.tup [r, .ref l]) → Dp K H' r d → H l = none → H' l = some (.lst rs) → RowsN H' rs (kiRows cs) → Q (.ref p) H'
def spMvt (K : PySem.W.Frag) : Sp := fun vs H Q _ => ∃ (a b c : Addr) (xs ys zs : List V) (bs os ts : List (Int × Int)) (side : Bool), vs = [.ref a, .ref b, .ref c, .int (sideI side)] ∧ SqT K H a xs ∧ DpAll K H xs (bs.map dV) ∧ SqT K H b ys ∧ DpAll K H ys (os.map dV) ∧ SqT K H c zs ∧ DpAll K H zs (ts.map dV) ∧ bs.length ≤ 12 ∧
  OutP K H Q (.tuple ((mVerts side bs os ts).1.map dV)) (mVerts side bs os ts).2
theorem dv_noL (v : Int × Int) : noL (dV v) = true := rfl
theorem sc_merge_vertices : FnScope ["base", "ours", "theirs", "side", "is_merged", "vertices"] ["base", "ours", "theirs", "side"] (defScope s_merge_vertices) := ⟨rfl, rfl, rfl, by decide +kernel, rfl, by decide +kernel, by decide +kernel⟩
theorem ok_merge_vertices (T : Tx K mg) : Ok P w K mg ("merge_vertices", none) ["base", "ours", "theirs", "side"] 3 (spMvt K) := by
  refine T.ok (i := 44) (d := d_merge_vertices) rfl rfl sc_merge_vertices (fun vs H Q E h => ?_) (fun _ _ _ _ _ _ us hl => match us, hl with | [_, _, _, _], _ => rfl) (fun base tb cdv A outer s H vs Q E hr h => ?_)
  · obtain ⟨a, b, c, xs, ys, zs, bs, os, ts, side, rfl, _⟩ := h
    rfl
  · obtain ⟨a, b, c, xs, ys, zs, bs, os, ts, side, rfl, ta, da, tb', db, tc, dc, l12, k⟩ := h
    have two : 2 ≤ sizeLine := by decide
    have lx : xs.length = bs.length := by rw [DpAll.len da, List.length_map]
    have ly : ys.length = os.length := by rw [DpAll.len db, List.length_map]
    have lz : zs.length = ts.length := by rw [DpAll.len dc, List.length_map]
    unfold OutP mVerts at k
    have hu := hu_of hr
    refine ⟨_, (pss_cons (ps_asg (pe_callO (ok_merge_value T) tb (T.glo 46) hr rfl (pa_cons (pv 0) (pa_cons (pv 1) (pa_cons (pv 2) (pa_cons (pv 3) pa_nil))))) (pg_tup rfl (pgs_cons (pg_name (i := 4) sc_merge_vertices.nd rfl (by first | exact Or.inl rfl | exact Or.inr rfl)) (pgs_cons (pg_name (i := 5) sc_merge_vertices.nd rfl (by first | exact Or.inl rfl | exact Or.inr rfl)) pgs_nil))))
        (pss_cons (ps_if (pt_val (pv 4))
          (pss_one (ps_ret (pe_tup (pa_cons (pv 5) (pa_cons (pe_lst pa_nil) pa_nil))))) pss_nil)
        (pss_cons (ps_if (PW.pt (pw_and (pt_cmpR op_eq (pe_callB (kLen (K := K) rfl) (by rfl) (T.free 87) PySem.boot_len (pa_cons (pv 0) pa_nil)) (pe_callB (kLen (K := K) rfl) (by rfl) (T.free 87) PySem.boot_len (pa_cons (pv 1) pa_nil)) (nomark _)) (pw_and1 (pt_cmpR op_eq (pe_callB (kLen (K := K) rfl) (by rfl) (T.free 87) PySem.boot_len (pa_cons (pv 0) pa_nil)) (pe_callB (kLen (K := K) rfl) (by rfl) (T.free 87) PySem.boot_len (pa_cons (pv 2) pa_nil)) (nomark _)))))
          (pss_one (ps_ret (pe_callO (ok_merge_one_by_one T) tb (T.glo 45) hr rfl (pa_cons (pv 0) (pa_cons (pv 1) (pa_cons (pv 2) (pa_cons (pv 3) (pa_cons (pe_gint (T.int 129) rfl) pa_nil)))))))) pss_nil)
        (pss_one (ps_ret (pe_tup (pa_cons (pv 5) (pa_cons (pe_lst (pa_cons (pe_tup (pa_cons (pe_gint (T.int 130) rfl) (pa_cons pe_int pa_nil))) pa_nil)) pa_nil)))))))), ?_⟩
    refine ⟨_, rfl, _, rfl, _, rfl, _, rfl, List (Int × Int), _, fun l => .tuple (l.map dV), bs, os, ts, .ref a, .ref b, .ref c, side, rfl, Tri.enc enc_verts (.tup ta da) (.tup tb' db) (.tup tc dc), fun p r _ hr np => ?_⟩
    have sp := same_upd (o := .tup [.bl (mergeValue bs os ts).isSome, r]) np
    refine ⟨p, _, rfl, SqT.of upd_same, rfl, _, _, rfl, _, _, rfl, rfl, ?_⟩
    have hr2 : Dp K _ r (.tuple ((mVal side bs os ts).map dV)) := DpT.tup (Tup.of sp) _ _ (noLs_map dv_noL _) hr
    generalize upd H p (.tup [.bl (mergeValue bs os ts).isSome, r]) = H1 at sp hr2 ⊢
    refine ⟨_, rfl, _, rfl, ?_⟩
    unfold mVal at hr2
    cases hm : mergeValue bs os ts with
    | some v =>
      rw [hm] at k hr2
      refine itT rfl ?_
      refine ⟨_, rfl, by show 0 ≤ sizeLine; decide, fun l nl => ⟨two, fun t nt => ?_⟩⟩
      have s1 := same_upd (o := .lst []) nl
      have s2 := same_upd (o := .tup [r, .ref l]) nt
      exact k _ t l r [] (sp.trans (s1.trans s2)) ((sp.trans s1).free nt) upd_same (DpT.tup (Tup.of (s1.trans s2)) _ _ (noLs_map dv_noL _) hr2) (sp.free nl) (s2 _ _ upd_same) .nil
    | none =>
      rw [hm] at k hr2
      refine itF rfl ?_
      have ta1 := ta.same sp
      have tb1 := tb'.same sp
      have tc1 := tc.same sp
      have fin : ¬ (bs.length = os.length ∧ bs.length = ts.length) → ∀ u, H1 u = none → ∀ l, (upd H1 u (.tup [vN 5, vN 0])) l = none → ∀ t, (upd (upd H1 u (.tup [vN 5, vN 0])) l (.lst [.ref u])) t = none → Q (.ref t) (upd (upd (upd H1 u (.tup [vN 5, vN 0])) l (.lst [.ref u])) t (.tup [r, .ref l])) := by
        intro hne u nu l nl t nt
        have s1 := same_upd (o := .tup [vN 5, vN 0]) nu
        have s2 := same_upd (o := .lst [.ref u]) nl
        have s3 := same_upd (o := .tup [r, .ref l]) nt
        have k := by simpa [hne] using k
        refine k _ t l r [.ref u] (sp.trans (s1.trans (s2.trans s3))) ((sp.trans (s1.trans s2)).free nt) upd_same ?_ ((sp.trans s1).free nl) (s3 _ _ upd_same) (.cons ⟨u, rfl, s3 _ _ (s2 _ _ upd_same)⟩ .nil)
        cases side
        · exact DpT.tup (Tup.of (s1.trans (s2.trans s3))) (.tuple (os.map dV)) _ (noLs_map dv_noL _) hr2
        · exact DpT.tup (Tup.of (s1.trans (s2.trans s3))) (.tuple (ts.map dV)) _ (noLs_map dv_noL _) hr2
      refine ⟨_, rfl, a, xs, rfl, .inr ta1, _, rfl, b, ys, rfl, .inr tb1, rfl, _, rfl, ?_⟩
      by_cases e1 : bs.length = os.length
      · refine itT (decide_eq_true (by rw [lx, ly, e1])) ?_
        refine ⟨_, rfl, a, xs, rfl, .inr ta1, _, rfl, c, zs, rfl, .inr tc1, rfl, _, rfl, ?_⟩
        by_cases e2 : bs.length = ts.length
        · refine itT (decide_eq_true (by rw [lx, lz, e2])) ?_
          refine ⟨_, rfl, _, rfl, _, rfl, _, rfl, Int × Int, inferInstance, dV, (0, 0), bs, os, ts, a, b, c, xs, ys, zs, side, 4, rfl, enc_vert, dv_noL, ta1, DpAllT.tup (Tup.of sp) _ _ (noLs_map dv_noL _) da, tb1, DpAllT.tup (Tup.of sp) _ _ (noLs_map dv_noL _) db, tc1, DpAllT.tup (Tup.of sp) _ _ (noLs_map dv_noL _) dc, e1.symm, e2.symm, l12, fun H2 p2 q l us rs s2 np2 hp2 tq du nl hl hR => ?_⟩
          have c2 : bs.length = os.length ∧ bs.length = ts.length := ⟨e1, e2⟩
          rw [if_pos c2, mergeLists_eq] at k
          refine k H2 p2 l (.ref q) rs (sp.trans s2) (sp.free np2) hp2 (.tup tq du) (sp.free nl) hl ?_
          unfold kiRows
          rw [List.map_map]
          exact hR
        · refine itF (decide_eq_false fun z => e2 (by have := V.int.inj z; omega)) ?_
          exact ⟨_, rfl, two, fun u nu => ⟨by show 1 ≤ sizeLine; decide, fun l nl => ⟨two, fun t nt => fin (fun z => e2 z.2) u nu l nl t nt⟩⟩⟩
      · refine itF (decide_eq_false fun z => e1 (by have := V.int.inj z; omega)) ?_
        exact ⟨_, rfl, two, fun u nu => ⟨by show 1 ≤ sizeLine; decide, fun l nl => ⟨two, fun t nt => fin (fun z => e1 z.1) u nu l nl t nt⟩⟩⟩
def spMf (K : PySem.W.Frag) : Sp := fun vs H Q _ => ∃ (n : Nat) (x y z : V) (b o t : Option Feature) (side : Bool) (ac : Nat), vs = [x, y, z, .int (sideI side)] ∧ Dp K H x (dO b) ∧ Dp K H y (dO o) ∧ Dp K H z (dO t) ∧ (∀ f, b = some f → f.id = n ∧ FOk ac f) ∧ (∀ f, o = some f → f.id = n ∧ FOk ac f) ∧ (∀ f, t = some f → f.id = n ∧ FOk ac f) ∧ ac ≤ 8 ∧
  OutP K H Q (dO (mFeat side b o t).1) (mFeat side b o t).2
theorem dO_noL : ∀ o : Option Feature, noL (dO o) = true
  | none => rfl
  | some f => dF_noL f
theorem dint_noL (n : Int) : noL (PyData.int n) = true := rfl
theorem sc_merge_feature : FnScope ["base", "ours", "theirs", "side", "is_merged", "feature", "attributes", "conflicts", "vertices", "more_conflicts"] ["base", "ours", "theirs", "side"] (defScope s_merge_feature) := ⟨rfl, rfl, rfl, by decide +kernel, rfl, by decide +kernel, by decide +kernel⟩
theorem ok_merge_feature (T : Tx K mg) : Ok P w K mg ("merge_feature", none) ["base", "ours", "theirs", "side"] 4 (spMf K) := by
  refine T.ok (i := 43) (d := d_merge_feature) rfl rfl sc_merge_feature (fun vs H Q E h => ?_) (fun _ _ _ _ _ _ us hl => match us, hl with | [_, _, _, _], _ => rfl) (fun base tb cdv A outer s H vs Q E hr h => ?_)
  · obtain ⟨n, x, y, z, b, o, t, side, ac, rfl, _⟩ := h
    rfl
  · obtain ⟨n, x, y, z, b, o, t, side, ac, rfl, hb, ho, ht, kb, ko, kt, h8, k⟩ := h
    have two : 2 ≤ sizeLine := by decide
    have tri : Tri K H dO b o t x y z := ⟨hb, ho, ht, dO_sh _, dO_sh _, dO_sh _, dO_eqv (n := n) (fun f h => (ko f h).1) (fun f h => (kt f h).1), dO_eqv (n := n) (fun f h => (kb f h).1) (fun f h => (kt f h).1), dO_eqv (n := n) (fun f h => (kb f h).1) (fun f h => (ko f h).1)⟩
    unfold OutP mFeat at k
    have hu := hu_of hr
    refine ⟨_, (pss_cons (ps_asg (pe_callO (ok_merge_value T) tb (T.glo 46) hr rfl (pa_cons (pv 0) (pa_cons (pv 1) (pa_cons (pv 2) (pa_cons (pv 3) pa_nil))))) (pg_tup rfl (pgs_cons (pg_name (i := 4) sc_merge_feature.nd rfl (by first | exact Or.inl rfl | exact Or.inr rfl)) (pgs_cons (pg_name (i := 5) sc_merge_feature.nd rfl (by first | exact Or.inl rfl | exact Or.inr rfl)) pgs_nil))))
        (pss_cons (ps_if (pt_val (pv 4))
          (pss_one (ps_ret (pe_tup (pa_cons (pv 5) (pa_cons (pe_lst pa_nil) pa_nil))))) pss_nil)
        (pss_cons (ps_if (pt_cmpR op_isN (pv 0) pe_non (nomark _))
          (pss_one (ps_ret (pe_tup (pa_cons (pv 5) (pa_cons (pe_lst (pa_cons (pe_tup (pa_cons (pe_gint (T.int 127) rfl) (pa_cons pe_int pa_nil))) pa_nil)) pa_nil))))) pss_nil)
        (pss_cons (ps_if (PW.pt (pw_or (pt_cmpR op_isN (pv 1) pe_non (nomark _)) (pw_or1 (pt_cmpR op_isN (pv 2) pe_non (nomark _)))))
          (pss_one (ps_ret (pe_tup (pa_cons (pv 5) (pa_cons (pe_lst (pa_cons (pe_tup (pa_cons (pe_gint (T.int 126) rfl) (pa_cons pe_int pa_nil))) pa_nil)) pa_nil))))) pss_nil)
        (pss_cons (ps_asg (pe_callO (ok_merge_one_by_one T) tb (T.glo 45) hr rfl (pa_cons (pe_ix (kIxT (K := K) rfl) (pv 0) pe_int (fun _ _ => rfl)) (pa_cons (pe_ix (kIxT (K := K) rfl) (pv 1) pe_int (fun _ _ => rfl)) (pa_cons (pe_ix (kIxT (K := K) rfl) (pv 2) pe_int (fun _ _ => rfl)) (pa_cons (pv 3) (pa_cons (pe_gint (T.int 128) rfl) pa_nil)))))) (pg_tup rfl (pgs_cons (pg_name (i := 6) sc_merge_feature.nd rfl (by first | exact Or.inl rfl | exact Or.inr rfl)) (pgs_cons (pg_name (i := 7) sc_merge_feature.nd rfl (by first | exact Or.inl rfl | exact Or.inr rfl)) pgs_nil))))
        (pss_cons (ps_asg (pe_callO (ok_merge_vertices T) tb (T.glo 44) hr rfl (pa_cons (pe_ix (kIxT (K := K) rfl) (pv 0) pe_int (fun _ _ => rfl)) (pa_cons (pe_ix (kIxT (K := K) rfl) (pv 1) pe_int (fun _ _ => rfl)) (pa_cons (pe_ix (kIxT (K := K) rfl) (pv 2) pe_int (fun _ _ => rfl)) (pa_cons (pv 3) pa_nil))))) (pg_tup rfl (pgs_cons (pg_name (i := 8) sc_merge_feature.nd rfl (by first | exact Or.inl rfl | exact Or.inr rfl)) (pgs_cons (pg_name (i := 9) sc_merge_feature.nd rfl (by first | exact Or.inl rfl | exact Or.inr rfl)) pgs_nil))))
        (pss_one (ps_ret (pe_tup (pa_cons (pe_tup (pa_cons (pv 6) (pa_cons (pv 8) pa_nil))) (pa_cons (pe_op op_cat (pv 7) (pv 9)) pa_nil))))))))))), ?_⟩
    refine ⟨_, rfl, _, rfl, _, rfl, _, rfl, Option Feature, inferInstance, dO, b, o, t, x, y, z, side, rfl, tri, fun p r _ hr np => ?_⟩
    have sp := same_upd (o := .tup [.bl (mergeValue b o t).isSome, r]) np
    refine ⟨p, _, rfl, SqT.of upd_same, rfl, _, _, rfl, _, _, rfl, rfl, ?_⟩
    have hr2 : Dp K _ r (dO (mVal side b o t)) := DpT.tup (Tup.of sp) _ _ (dO_noL _) hr
    generalize upd H p (.tup [.bl (mergeValue b o t).isSome, r]) = H1 at sp hr2 ⊢
    refine ⟨_, rfl, _, rfl, ?_⟩
    unfold mVal at hr2
    cases hm : mergeValue b o t with
    | some v =>
      rw [hm] at k hr2
      refine itT rfl ?_
      refine ⟨_, rfl, by show 0 ≤ sizeLine; decide, fun l nl => ⟨two, fun u nu => ?_⟩⟩
      have s1 := same_upd (o := .lst []) nl
      have s2 := same_upd (o := .tup [r, .ref l]) nu
      exact k _ u l r [] (sp.trans (s1.trans s2)) ((sp.trans s1).free nu) upd_same (DpT.tup (Tup.of (s1.trans s2)) _ _ (dO_noL _) hr2) (sp.free nl) (s2 _ _ upd_same) .nil
    | none =>
      rw [hm] at k hr2
      refine itF rfl ?_
      -- one conflict of the whole feature
      have fin : ∀ kind : Nat, (∀ (H' : Hp) (p l : Addr) (r : V) (rs : List V), Same H H' → H p = none → H' p = some (.tup [r, .ref l]) → Dp K H' r (dO (if side then t else o)) → H l = none → H' l = some (.lst rs) → RowsN H' rs (kiRows [(kind, 0)]) → Q (.ref p) H') →
          ∀ u, H1 u = none → ∀ l, (upd H1 u (.tup [vN kind, vN 0])) l = none → ∀ t, (upd (upd H1 u (.tup [vN kind, vN 0])) l (.lst [.ref u])) t = none → Q (.ref t) (upd (upd (upd H1 u (.tup [vN kind, vN 0])) l (.lst [.ref u])) t (.tup [r, .ref l])) := by
        intro kind k u nu l nl t' nt
        have s1 := same_upd (o := .tup [vN kind, vN 0]) nu
        have s2 := same_upd (o := .lst [.ref u]) nl
        have s3 := same_upd (o := .tup [r, .ref l]) nt
        refine k _ t' l r [.ref u] (sp.trans (s1.trans (s2.trans s3))) ((sp.trans (s1.trans s2)).free nt) upd_same ?_ ((sp.trans s1).free nl) (s3 _ _ upd_same) (.cons ⟨u, rfl, s3 _ _ (s2 _ _ upd_same)⟩ .nil)
        exact DpT.tup (Tup.of (s1.trans (s2.trans s3))) _ _ (dO_noL _) hr2
      cases b with
      | none =>
        obtain rfl := dp_non hb
        refine ⟨_, rfl, rfl, _, rfl, ?_⟩
        refine itT rfl ?_
        exact ⟨_, rfl, two, fun u nu => ⟨by show 1 ≤ sizeLine; decide, fun l nl => ⟨two, fun t' nt => fin 2 k u nu l nl t' nt⟩⟩⟩
      | some fb =>
        obtain ⟨a, p0, q0, us, rfl, t1, t2, t3, t4⟩ := Fea.parts hb
        refine ⟨_, rfl, rfl, _, rfl, ?_⟩
        refine itF rfl ?_
        cases o with
        | none =>
          obtain rfl := dp_non ho
          refine ⟨_, rfl, rfl, _, rfl, ?_⟩
          refine itT rfl ?_
          exact ⟨_, rfl, two, fun u nu => ⟨by show 1 ≤ sizeLine; decide, fun l nl => ⟨two, fun t' nt => fin 1 k u nu l nl t' nt⟩⟩⟩
        | some fo =>
          obtain ⟨a', p0', q0', us', rfl, t1', t2', t3', t4'⟩ := Fea.parts ho
          refine ⟨_, rfl, rfl, _, rfl, ?_⟩
          refine itF rfl ?_
          cases t with
          | none =>
            obtain rfl := dp_non ht
            refine ⟨_, rfl, rfl, _, rfl, ?_⟩
            refine itT rfl ?_
            exact ⟨_, rfl, two, fun u nu => ⟨by show 1 ≤ sizeLine; decide, fun l nl => ⟨two, fun t' nt => fin 1 k u nu l nl t' nt⟩⟩⟩
          | some ft =>
            obtain ⟨a'', p0'', q0'', us'', rfl, t1'', t2'', t3'', t4''⟩ := Fea.parts ht
            refine ⟨_, rfl, rfl, _, rfl, ?_⟩
            refine itF rfl ?_
            have Fb := (kb fb rfl).2
            have Fo := (ko fo rfl).2
            have Ft := (kt ft rfl).2
            refine ⟨_, rfl, a, _, _, _, rfl, rfl, t1.same sp, atI_nat (j := 0) rfl, _, rfl, a', _, _, _, rfl, rfl, t1'.same sp, atI_nat (j := 0) rfl, _, rfl, a'', _, _, _, rfl, rfl, t1''.same sp, atI_nat (j := 0) rfl, _, rfl, ?_⟩
            refine ⟨Int, inferInstance, PyData.int, 0, fb.attributes, fo.attributes, ft.attributes, p0, p0', p0'', _, _, _, side, 3, rfl, enc_int, dint_noL, t2.same sp, dp_ints' _, t2'.same sp, dp_ints' _, t2''.same sp, dp_ints' _, by rw [Fo.al, Fb.al], by rw [Ft.al, Fb.al], by rw [Fb.al]; omega, fun H2 p2 q l us2 rs s2 np2 hp2 tq du nl hl hR => ?_⟩
            have sA := sp.trans s2
            refine ⟨p2, _, rfl, SqT.of hp2, rfl, _, _, rfl, _, _, rfl, rfl, ?_⟩
            refine ⟨_, rfl, a, _, _, _, rfl, rfl, t1.same sA, atI_nat (j := 1) rfl, _, rfl, a', _, _, _, rfl, rfl, t1'.same sA, atI_nat (j := 1) rfl, _, rfl, a'', _, _, _, rfl, rfl, t1''.same sA, atI_nat (j := 1) rfl, _, rfl, ?_⟩
            refine ⟨q0, q0', q0'', us, us', us'', fb.vertices, fo.vertices, ft.vertices, side, rfl, t3.same sA, DpAllT.tup (Tup.of sA) _ _ (vert_noL _) t4, t3'.same sA, DpAllT.tup (Tup.of sA) _ _ (vert_noL _) t4', t3''.same sA, DpAllT.tup (Tup.of sA) _ _ (vert_noL _) t4'', Fb.v2, fun H3 p3 l3 r3 rs3 s3 np3 hp3 hr3 nl3 hl3 hR3 => ?_⟩
            refine ⟨p3, _, rfl, SqT.of hp3, rfl, _, _, rfl, _, _, rfl, rfl, ?_⟩
            have s23 := s2.trans s3
            refine ⟨_, rfl, _, rfl, two, fun u nu => ?_⟩
            have s4 := same_upd (o := .tup [.ref q, r3]) nu
            have lc1 : rs.length ≤ 12 := by
              rw [hR.len, List.length_map]
              have := cUp_len fb.attributes fo.attributes ft.attributes 0 fb.attributes.length
              have := Fb.al
              omega
            have lc2 : rs3.length ≤ 13 := by
              rw [hR3.len, List.length_map]
              have := mVerts_len (side := side) (b := fb.vertices) (o := fo.vertices) (t := ft.vertices)
              have := Fb.v2
              omega
            refine ⟨_, rfl, _, rfl, l, l3, _, _, rfl, rfl, s4 _ _ (s3 _ _ hl), s4 _ _ hl3, small' (m := 100) (by omega), fun l5 nl5 => ?_⟩
            have s5 := same_upd (o := .lst (rs ++ rs3)) nl5
            refine ⟨two, fun t' nt => ?_⟩
            have s6 := same_upd (o := .tup [.ref u, .ref l5]) nt
            have s46 := s4.trans (s5.trans s6)
            have eA : (mergeLists side fb.attributes fo.attributes ft.attributes 0).1 = mUp side fb.attributes fo.attributes ft.attributes 0 fb.attributes.length := by rw [mergeLists_eq]
            have eC : (mergeLists side fb.attributes fo.attributes ft.attributes 0).2 = cUp fb.attributes fo.attributes ft.attributes 0 fb.attributes.length := by rw [mergeLists_eq]
            refine k _ t' l5 (.ref u) (rs ++ rs3) (sA.trans (s3.trans s46)) ((sA.trans (s3.trans (s4.trans s5))).free nt) upd_same ?_ ((sA.trans (s3.trans s4)).free nl5) (s6 _ _ upd_same) ?_
            · refine Dp.tup (SqT.of (s6 _ _ (s5 _ _ upd_same))) (DpAll.cons (Dp.tup (tq.same (s3.trans s46)) ?_) (DpAll.cons (DpT.tup (Tup.of s46) _ _ (noLs_map dv_noL _) hr3) DpAll.nil))
              show DpAll K _ us2 (dI (mergeLists side fb.attributes fo.attributes ft.attributes 0).1)
              rw [eA]
              exact DpAllT.tup (Tup.of (s3.trans s46)) _ _ (noLs_map dint_noL _) du
            · have r1 := RowsN.same (fun b o h _ => (s3.trans s46) b o h) hR
              have r2 := RowsN.same (fun b o h _ => s46 b o h) hR3
              have app : ∀ {xs ys : List V} {as bs : List (List Int)} {H : Hp}, RowsN H xs as → RowsN H ys bs → RowsN H (xs ++ ys) (as ++ bs) := by
                intro xs ys as bs H h1 h2
                induction h1 with
                | nil => exact h2
                | cons a b ih => exact .cons a ih
              have := app r1 r2
              show RowsN _ _ (kiRows (((mergeLists side fb.attributes fo.attributes ft.attributes 0).2.map fun i => (3, i)) ++ (mVerts side fb.vertices fo.vertices ft.vertices).2))
              rw [eC]
              unfold kiRows at this ⊢
              rw [List.map_append, List.map_map]
              exact this
end Pv
end
section
set_option Elab.async false
set_option linter.all false
set_option maxRecDepth 100000
set_option maxHeartbeats 2000000
namespace Pv
open PySem PySem.Spec PyProof.Rows L2 Kvg9
open L2 (Dp DpAll)
variable {P : Program} {w : World} {K : PySem.W.Frag} {mg : Str → Option Value}
theorem RowsN.app {xs ys : List V} {as bs : List (List Int)} {H : Hp} (h1 : RowsN H xs as) (h2 : RowsN H ys bs) : RowsN H (xs ++ ys) (as ++ bs) := by
  induction h1 with
  | nil => exact h2
  | cons a b ih => exact .cons a ih
theorem RowsN.at {H : Hp} : ∀ {xs : List V} {rs : List (List Int)}, RowsN H xs rs → ∀ {i : Nat} {x : V}, xs[i]? = some x → ∃ r t, rs[i]? = some r ∧ x = .ref t ∧ H t = some (.tup (r.map V.int))
  | _, _, .nil, i, x, e => by simp at e
  | _ :: _, r :: _, .cons ⟨t, h1, h2⟩ q, 0, x, e => by
    have e := Option.some.inj e
    exact ⟨r, t, rfl, by rw [← e]; exact h1, h2⟩
  | _ :: _, _ :: _, .cons _ q, i + 1, x, e => RowsN.at q (i := i) (by simpa using e)
def mRowsOf (side : Bool) (b o t : Version) : List (List Int) := mRows side b o t (idsOf [b, o, t])
def spMvs (K : PySem.W.Frag) : Sp := fun vs H Q _ => ∃ (a b c : Addr) (vb vo vt : Version) (side : Bool) (ac : Nat), vs = [.ref a, .ref b, .ref c, .int (sideI side)] ∧ VerAt K H a vb ∧ VerAt K H b vo ∧ VerAt K H c vt ∧ VOk ac vb ∧ VOk ac vo ∧ VOk ac vt ∧ ac ≤ 8 ∧
  ∀ (H' : Hp) (p d l : Addr) (rs : List V), Same H H' → H p = none → H' p = some (.tup [.ref d, .ref l]) → H d = none → VerAt K H' d (Kvg9.merge side vb vo vt).1 → H l = none → H' l = some (.lst rs) → RowsN H' rs (mRowsOf side vb vo vt) → Q (.ref p) H'
theorem mRows_snoc (side : Bool) (b o t : Version) (ids : List Nat) (n : Nat) : mRows side b o t (ids ++ [n]) = mRows side b o t ids ++ (mRes side b o t n).2.map (cRow n) := by
  unfold mRows
  rw [List.flatMap_append]
  simp
theorem mRes_len {side : Bool} {b o t : Version} {k n : Nat} (hb : VOk k b) (h8 : k ≤ 8) : (mRes side b o t n).2.length ≤ 20 := mFeat_len (fun f hf => by rw [(hb.all f (find_mem hf).1).al]; exact h8) fun f hf => (hb.all f (find_mem hf).1).v2
theorem mRows_len {side : Bool} {b o t : Version} {k : Nat} (hb : VOk k b) (h8 : k ≤ 8) : ∀ ids : List Nat, (mRows side b o t ids).length ≤ 20 * ids.length
  | [] => Nat.le_refl _
  | n :: ids => by
    have h := mRows_len hb h8 ids (side := side) (o := o) (t := t)
    have h2 := mRes_len (side := side) (o := o) (t := t) (n := n) hb h8
    unfold mRows at h ⊢
    rw [List.flatMap_cons, List.length_append, List.length_map, List.length_cons]
    omega
theorem mVer_len {side : Bool} {b o t : Version} (ids : List Nat) : (mVer side b o t ids).length ≤ ids.length := List.length_filterMap_le _ _
theorem strict_take {l : List Nat} (h : l.Pairwise (· < ·)) {i n : Nat} (e : l[i]? = some n) : ∀ m ∈ l.take i, m < n := fun m hm => by
  obtain ⟨j, hj⟩ := List.mem_iff_getElem?.mp hm
  obtain ⟨hi, ei⟩ := List.getElem?_eq_some_iff.mp e
  obtain ⟨hj1, ej⟩ := List.getElem?_eq_some_iff.mp hj
  have hji : j < i := by rw [List.length_take] at hj1; omega
  have := List.pairwise_iff_getElem.mp h j i (by omega) hi hji
  rw [List.getElem_take] at ej
  rw [ej, ei] at this
  exact this
theorem sc_merge_versions : FnScope ["base", "ours", "theirs", "side", "merged", "conflicts", "feature_id", "feature", "found", "kind", "index"] ["base", "ours", "theirs", "side"] (defScope s_merge_versions) := ⟨rfl, rfl, rfl, by decide +kernel, rfl, by decide +kernel, by decide +kernel⟩
theorem ok_merge_versions (T : Tx K mg) : Ok P w K mg ("merge_versions", none) ["base", "ours", "theirs", "side"] 5 (spMvs K) := by
  refine T.ok (i := 42) (d := d_merge_versions) rfl rfl sc_merge_versions (fun vs H Q E h => ?_) (fun _ _ _ _ _ _ us hl => match us, hl with | [_, _, _, _], _ => rfl) (fun base tb cdv A outer s H vs Q E hr h => ?_)
  · obtain ⟨a, b, c, vb, vo, vt, side, ac, rfl, _⟩ := h
    rfl
  · obtain ⟨a, b, c, vb, vo, vt, side, ac, rfl, ha, hb, hc, ob, oo, ot, h8, k⟩ := h
    obtain ⟨ka, qa, Da⟩ := id ha
    obtain ⟨kb, qb, Db⟩ := id hb
    obtain ⟨kc, qc, Dc⟩ := id hc
    have two : 2 ≤ sizeLine := by decide
    obtain ⟨xs, ex, lx, mx⟩ := Da.ints ob.srt
    obtain ⟨ys, ey, ly, my⟩ := Db.ints oo.srt
    obtain ⟨zs, ez, lz, mz⟩ := Dc.ints ot.srt
    have l1 := ob.len
    have l2 := oo.len
    have l3 := ot.len
    have il := ids3_len l1 l2 l3
    have strict := idsOf_strict [vb, vo, vt]
    have hu := hu_of hr
    refine ⟨_, (pss_cons (ps_set (i := 4) sc_merge_versions.nd rfl (by first | exact Or.inl rfl | exact Or.inr rfl) pe_dnewK)
        (pss_cons (ps_set (i := 5) sc_merge_versions.nd rfl (by first | exact Or.inl rfl | exact Or.inr rfl) (pe_lst pa_nil))
        (pss_cons (ps_for PassesOwn.never rfl (kPiL (K := K) rfl (pe_callB (cr_sortedSet rfl) (by rfl) (T.free 93) (by decide +kernel) (pa_cons (pe_op kSetOr (pe_op kSetOr (pe_callTy kSetD (by rfl) (T.free 92) (by decide +kernel) (pa_cons (pv 0) pa_nil)) (pe_callTy kSetD (by rfl) (T.free 92) (by decide +kernel) (pa_cons (pv 1) pa_nil))) (pe_callTy kSetD (by rfl) (T.free 92) (by decide +kernel) (pa_cons (pv 2) pa_nil))) pa_nil))) (pg_name (i := 6) sc_merge_versions.nd rfl (by first | exact Or.inl rfl | exact Or.inr rfl))
          (pss_cons (ps_asg (pe_callO (ok_merge_feature T) tb (T.glo 43) hr rfl (pa_cons (pe_dget1 hu (pv 0) (pv 6) ⟨by rfl, by rfl, by rfl, by rfl⟩) (pa_cons (pe_dget1 hu (pv 1) (pv 6) ⟨by rfl, by rfl, by rfl, by rfl⟩) (pa_cons (pe_dget1 hu (pv 2) (pv 6) ⟨by rfl, by rfl, by rfl, by rfl⟩) (pa_cons (pv 3) pa_nil))))) (pg_tup rfl (pgs_cons (pg_name (i := 7) sc_merge_versions.nd rfl (by first | exact Or.inl rfl | exact Or.inr rfl)) (pgs_cons (pg_name (i := 8) sc_merge_versions.nd rfl (by first | exact Or.inl rfl | exact Or.inr rfl)) pgs_nil))))
        (pss_cons (ps_if (pt_cmpR op_notN (pv 7) pe_non (nomark _))
          (pss_one (ps_dput hu (pv 4) (pv 6) (pv 7) rfl)) pss_nil)
        (pss_one (ps_expr (pe_bm PySem.F.plainAttrs_list PySem.F.slot_list_extend PySem.F.type_list_extend (kExt (K := K) rfl) (pv 5) (pa_cons (pe_lc (own := [("kind", 9), ("index", 10)]) rfl sc_merge_versions.nd (kPiL (K := K) rfl (pv 8)) (blkOk_by (N := ["base", "ours", "theirs", "side", "merged", "conflicts", "feature_id", "feature", "found", "kind", "index"]) (sc := defScope s_merge_versions) (by decide +kernel)) (fun _ _ _ _ _ => (kPgT (K := K) (n := 2) rfl rfl (pgs_cons (pg_name (i := 9) sc_merge_versions.nd rfl (by first | exact Or.inl rfl | exact Or.inr rfl)) (pgs_cons (pg_name (i := 10) sc_merge_versions.nd rfl (by first | exact Or.inl rfl | exact Or.inr rfl)) pgs_nil)))) (fun _ _ _ _ _ => pts_nil) (fun _ _ _ _ _ => (pe_tup (pa_cons (pv 6) (pa_cons (pv 9) (pa_cons (pv 10) pa_nil)))))) pa_nil)))))))
        (pss_one (ps_ret (pe_tup (pa_cons (pv 4) (pa_cons (pv 5) pa_nil)))))))), ?_⟩
    refine fun M nM => ⟨by show 0 ≤ sizeLine; decide, fun C nC => ?_⟩
    have s1 := same_upd (o := .dK []) nM
    have s2 := same_upd (o := .lst []) nC
    have s12 := s1.trans s2
    have nC0 : H C = none := s1.free nC
    have nMC : M ≠ C := ne_of_none upd_same nC
    refine ⟨_, rfl, a, ka, xs, rfl, .inl (s12 _ _ qa), ex, by omega, fun p1 n1 c1 np1 => ?_⟩
    have s3 := same_upd (o := SetO w p1 (fun j => decide (j ∈ xs)) n1) np1
    refine ⟨_, rfl, b, kb, ys, rfl, .inl (s3 _ _ (s12 _ _ qb)), ey, by omega, fun p2 n2 c2 np2 => ?_⟩
    have s4 := same_upd (o := SetO w p2 (fun j => decide (j ∈ ys)) n2) np2
    refine ⟨p1, p2, _, _, n1, n2, rfl, rfl, s4 _ _ upd_same, upd_same, by omega, fun p3 m3 c3 np3 => ?_⟩
    have s5 := same_upd (o := SetO w p3 (fun j => decide (j ∈ xs) || decide (j ∈ ys)) m3) np3
    have s35 := s3.trans (s4.trans s5)
    refine ⟨_, rfl, c, kc, zs, rfl, .inl (s35 _ _ (s12 _ _ qc)), ez, by omega, fun p4 n4 c4 np4 => ?_⟩
    have s6 := same_upd (o := SetO w p4 (fun j => decide (j ∈ zs)) n4) np4
    refine ⟨p3, p4, _, _, m3, n4, rfl, rfl, s6 _ _ upd_same, upd_same, by omega, fun p5 m5 c5 np5 => ?_⟩
    have s7 := same_upd (o := SetO w p5 (fun j => (decide (j ∈ xs) || decide (j ∈ ys)) || decide (j ∈ zs)) m5) np5
    refine ⟨p5, _, m5, rfl, upd_same, by omega, fun ns p hs hm hl np => ?_⟩
    have s8 := same_upd (o := .lst (ns.map V.int)) np
    have en : ns = (idsOf [vb, vo, vt]).map fun n : Nat => (n : Int) := ids_sorted (vs := [vb, vo, vt]) (fun z => by
      rw [Bool.or_eq_true, Bool.or_eq_true, decide_eq_true_eq, decide_eq_true_eq, decide_eq_true_eq, mx, my, mz]
      constructor
      · rintro ((⟨n, e, h⟩ | ⟨n, e, h⟩) | ⟨n, e, h⟩)
        · exact ⟨vb, by simp, n, e, h⟩
        · exact ⟨vo, by simp, n, e, h⟩
        · exact ⟨vt, by simp, n, e, h⟩
      · rintro ⟨x, hx, n, e, h⟩
        rcases List.mem_cons.mp hx with q | q
        · exact .inl (.inl ⟨n, e, q ▸ h⟩)
        · rcases List.mem_cons.mp q with q | q
          · exact .inl (.inr ⟨n, e, q ▸ h⟩)
          · rcases List.mem_cons.mp q with q | q
            · exact .inr ⟨n, e, q ▸ h⟩
            · cases q) hs hm
    subst en
    have s38 := s35.trans (s6.trans (s7.trans s8))
    have sA := s12.trans s38
    have hM7 := (s35.trans (s6.trans s7)) _ _ (s2 _ _ upd_same)
    have hC7 := (s35.trans (s6.trans s7)) _ _ upd_same
    have nMp := ne_of_none hM7 np
    have nCp := ne_of_none hC7 np
    have hMp := s8 _ _ hM7
    have hCp := s8 _ _ hC7
    refine ⟨p, rfl, ⟨_, SqL.of upd_same⟩, for_list (K := K) (a := p) (xs := ((idsOf [vb, vo, vt]).map fun n : Nat => (n : Int)).map V.int) (fun i σ H1 => ∃ (v6 v7 v8 v9 v10 : Option V) (kvs : List (Key × V)) (cs : List V), σ = [some (.ref a), some (.ref b), some (.ref c), some (.int (sideI side)), some (.ref M), some (.ref C), v6, v7, v8, v9, v10] ∧ Same H H1 ∧ H1 p = some (.lst (((idsOf [vb, vo, vt]).map fun n : Nat => (n : Int)).map V.int)) ∧
      H1 M = some (.dK kvs) ∧ VerD K H1 kvs (mVer side vb vo vt ((idsOf [vb, vo, vt]).take i)) ∧ H1 C = some (.lst cs) ∧ RowsN H1 cs (mRows side vb vo vt ((idsOf [vb, vo, vt]).take i)))
      ⟨none, none, none, none, none, [], [], rfl, sA, upd_same, hMp, VerD.nil, hCp, .nil⟩ (fun i σ H1 _ ⟨_, _, _, _, _, _, _, _, _, q, _⟩ => SqL.of q) ?_ ?_⟩
    · rintro i x σ H1 hi ⟨v6, v7, v8, v9, v10, kvs, cs, rfl, s, hp, hM, DM, hC, RC⟩
      obtain ⟨z, e, rfl⟩ := nth_int hi
      rw [List.getElem?_map] at e
      cases ef : (idsOf [vb, vo, vt])[i]? with
      | none => rw [ef] at e; cases e
      | some n =>
        rw [ef] at e
        obtain rfl : (n : Int) = z := Option.some.inj e
        have hi48 := (List.getElem?_eq_some_iff.mp ef).1
        have lt := strict_take strict ef
        refine ⟨_, rfl, a, rfl, .inl ⟨ka, .inl (s _ _ qa)⟩, _, rfl, _, DGet.k (k := kI n) (s _ _ qa), ?_⟩
        refine ⟨_, rfl, b, rfl, .inl ⟨kb, .inl (s _ _ qb)⟩, _, rfl, _, DGet.k (k := kI n) (s _ _ qb), ?_⟩
        refine ⟨_, rfl, c, rfl, .inl ⟨kc, .inl (s _ _ qc)⟩, _, rfl, _, DGet.k (k := kI n) (s _ _ qc), _, rfl, ?_⟩
        have fk : ∀ {v : Version}, VOk ac v → ∀ f, find v n = some f → f.id = n ∧ FOk ac f := fun o f hf => ⟨find_id hf, find_fok o.all n f hf⟩
        refine ⟨n, _, _, _, find vb n, find vo n, find vt n, side, ac, rfl, (Da.tup (Tup.of s)).opt n, (Db.tup (Tup.of s)).opt n, (Dc.tup (Tup.of s)).opt n, fk ob, fk oo, fk ot, h8, fun H2 q l r rs s9 nq hq hr nl hl hR => ?_⟩
        have sB := s.trans s9
        refine ⟨q, _, rfl, SqT.of hq, rfl, _, _, rfl, _, _, rfl, rfl, ?_⟩
        have hM2 := s9 _ _ hM
        have hC2 := s9 _ _ hC
        have hp2 := s9 _ _ hp
        have nlM : l ≠ M := fun z => by rw [z, hM] at nl; cases nl
        have nlC : l ≠ C := fun z => by rw [z, hC] at nl; cases nl
        have nlp : l ≠ p := fun z => by rw [z, hp] at nl; cases nl
        have srt := mVer_srt (side := side) (b := vb) (o := vo) (t := vt) (strict.sublist (List.take_sublist i _))
        have kl : kvs.length ≤ i := by
          rw [DM.len srt]
          have := mVer_len (side := side) (b := vb) (o := vo) (t := vt) ((idsOf [vb, vo, vt]).take i)
          rw [List.length_take] at this
          omega
        have snoc := mVer_snoc (side := side) (b := vb) (o := vo) (t := vt) lt
        rw [← take_snoc ef] at snoc
        have hR1 : RowsN H2 cs (mRows side vb vo vt ((idsOf [vb, vo, vt]).take i)) := RowsN.same (fun b o h _ => s9 b o h) RC
        have DM2 := DM.tup (Tup.of s9)
        have e1 : (mFeat side (find vb n) (find vo n) (find vt n)).1 = (mRes side vb vo vt n).1 := rfl
        have e2 : (mFeat side (find vb n) (find vo n) (find vt n)).2 = (mRes side vb vo vt n).2 := rfl
        rw [e1] at hr
        rw [e2] at hR
        obtain ⟨H3, eH3⟩ : ∃ H3, H3 = H2 := ⟨_, rfl⟩
        cases hf : (mRes side vb vo vt n).1
        case' none =>
          rw [hf] at hr snoc
          obtain rfl := dp_non hr
          refine ⟨_, rfl, rfl, _, rfl, ?_⟩
          refine itF rfl ?_
          have DM3 : VerD K H2 kvs (mVer side vb vo vt ((idsOf [vb, vo, vt]).take (i + 1))) := by rw [snoc]; exact DM2
          have sC : Same H H2 := sB
          have hp3 := hp2
          have hM3 := hM2
          have hC3 := hC2
          have hl3 := hl
          have hR3 := hR
          have hR13 := hR1
        case' some f =>
          rw [hf] at hr snoc
          have hid : f.id = n := mFeat_id (fun f h => (find_mem h).2) (fun f h => (find_mem h).2) (fun f h => (find_mem h).2) hf
          obtain ⟨ra, er⟩ := dp_some hr
          refine ⟨_, rfl, rfl, _, rfl, ?_⟩
          refine itT (by rw [er]; rfl) ?_
          refine ⟨_, rfl, _, rfl, _, rfl, M, _, rfl, DPut.k (k := kI n) hM2 (small (m := 100) (by omega)), ?_⟩
          have t3 : Tup H2 (upd H2 M (.dK (putK kvs (kI n) r))) := Tup.upd hM2 rfl
          have DM3 : VerD K (upd H2 M (.dK (putK kvs (kI n) r))) (putK kvs (kI n) r) (mVer side vb vo vt ((idsOf [vb, vo, vt]).take (i + 1))) := by
            have h5 := DM2.put srt hr
            rw [hid] at h5
            rw [snoc]
            exact h5.tup t3
          have sC : Same H (upd H2 M (.dK (putK kvs (kI n) r))) := fun b o hb => by rw [upd_ne (ne_of_none hb nM)]; exact sB b o hb
          have hp3 : (upd H2 M (.dK (putK kvs (kI n) r))) p = some (.lst (((idsOf [vb, vo, vt]).map fun n : Nat => (n : Int)).map V.int)) := by rw [upd_ne nMp.symm]; exact hp2
          have hM3 : (upd H2 M (.dK (putK kvs (kI n) r))) M = some (.dK (putK kvs (kI n) r)) := upd_same
          have hC3 : (upd H2 M (.dK (putK kvs (kI n) r))) C = some (.lst cs) := by rw [upd_ne nMC.symm]; exact hC2
          have hl3 : (upd H2 M (.dK (putK kvs (kI n) r))) l = some (.lst rs) := by rw [upd_ne nlM]; exact hl
          have hR3 := RowsN.same t3 hR
          have hR13 := RowsN.same t3 hR1
        all_goals
          clear hM hM2 hC hC2 hp hp2 DM DM2 hR hR1 hl RC eH3
          refine ⟨_, rfl, .inl ⟨rfl, _, SqL.of hC3⟩, ?_⟩
          have lcs : cs.length ≤ 20 * 48 := by
            rw [hR13.len]
            have := mRows_len (side := side) (o := vo) (t := vt) ob h8 ((idsOf [vb, vo, vt]).take i)
            rw [List.length_take] at this
            omega
          have lrs : rs.length ≤ 20 := by
            rw [hR3.len, List.length_map]
            exact mRes_len ob h8
          refine ⟨_, rfl, l, rfl, ⟨_, SqL.of hl3⟩, fun D nD => lc_list (K := K) (a := l) (xs := rs) (LcP _ D (fun j acc H4 => RowsN H4 acc (((mRes side vb vo vt n).2.take j).map (cRow n)))) (LcP.start nD .nil) (fun i H' _ q => q.1.seq (SqL.of hl3)) ?_ ?_⟩
          · rintro j x H4 hx ⟨s4, acc, hD, hA, r⟩
            obtain ⟨row, t, er, rfl, ht⟩ := RowsN.at hR3 hx
            rw [List.getElem?_map] at er
            cases ec : (mRes side vb vo vt n).2[j]? with
            | none => rw [ec] at er; cases er
            | some cf =>
              rw [ec] at er
              have er := Option.some.inj er
              subst er
              refine ⟨t, _, rfl, SqT.of (s4 _ _ ht), rfl, _, _, rfl, _, _, rfl, rfl, ?_⟩
              refine ⟨rfl, ?_⟩
              refine ⟨_, rfl, _, rfl, _, rfl, by show 3 ≤ sizeLine; decide, fun u nu => ?_⟩
              have su := same_upd (o := .tup [V.int (n : Nat), V.int (cf.1 : Int), V.int (cf.2 : Int)]) nu
              have hjl := (List.getElem?_eq_some_iff.mp hx).1
              have nuD : u ≠ D := fun z => by rw [z, hD] at nu; cases nu
              refine LcP.put (n := 1000) nD s4 hD hA su (by omega) ?_
              show RowsN _ (acc ++ [.ref u]) (((mRes side vb vo vt n).2.take (j + 1)).map (cRow n))
              rw [take_snoc ec, List.map_append]
              exact RowsN.snoc (RowsN.same ((Tup.of su).trans (tup_upd_lst (su _ _ hD))) r) (by rw [upd_ne nuD, upd_same]; rfl)
          · rintro H4 ⟨s4, acc, hD, hA, r⟩
            have r : RowsN H4 acc (((mRes side vb vo vt n).2.take rs.length).map (cRow n)) := r
            have el : rs.length = (mRes side vb vo vt n).2.length := by rw [hR3.len, List.length_map]
            rw [el, List.take_length] at r
            have hC4 := s4 _ _ hC3
            have nCD : C ≠ D := ne_of_none hC3 nD
            refine ⟨C, D, cs, acc, rfl, rfl, hC4, .inl hD, ?_, ?_⟩
            · have : acc.length ≤ 20 := by
                rw [r.len, List.length_map]
                exact mRes_len ob h8
              exact small' (m := 2000) (by omega)
            · have t4 : Tup H4 (upd H4 C (.lst (cs ++ acc))) := tup_upd_lst hC4
              have tA := (Tup.of s4).trans t4
              refine ⟨_, _, _, _, _, _, cs ++ acc, rfl, fun b o hb => ?_, ?_, ?_, DM3.tup tA, upd_same, ?_⟩
              · rw [upd_ne (ne_of_none hb nC0)]; exact s4 _ _ (sC _ _ hb)
              · rw [upd_ne nCp.symm]; exact s4 _ _ hp3
              · rw [upd_ne nMC]; exact s4 _ _ hM3
              · rw [take_snoc ef, mRows_snoc]
                exact RowsN.app (RowsN.same tA hR13) (RowsN.same t4 r)
    · rintro σ H1 ⟨v6, v7, v8, v9, v10, kvs, cs, rfl, s, hp, hM, DM, hC, RC⟩
      rw [List.length_map, List.length_map, List.take_length] at DM RC
      refine ⟨_, rfl, _, rfl, two, fun t nt => ?_⟩
      have st := same_upd (o := .tup [.ref M, .ref C]) nt
      refine k _ t M C cs (s.trans st) (s.free nt) upd_same nM ⟨kvs, st _ _ hM, ?_⟩ nC0 (st _ _ hC) (RowsN.same (fun b o h _ => st b o h) RC)
      rw [merge_eq]
      exact DM.tup (Tup.of st)
end Pv
end
section
set_option Elab.async false
set_option linter.all false
set_option maxRecDepth 100000
set_option maxHeartbeats 2000000
namespace Pv
open PySem PySem.Spec PyProof.Rows L2
variable {P : Program} {w : World} {K : PySem.W.Frag} {mg : Str → Option Value}
theorem Tx.apart (T : Tx K mg) {i j : Nat} {d1 d2 : He.DefD} (e1 : fn[i]? = some d1) (e2 : fn[j]? = some d2) (h : He.fAd K d1.at_ = He.fAd K d2.at_) : d1.name = d2.name := by
  obtain ⟨fd1, F1⟩ := T.says.def_ i e1
  obtain ⟨fd2, F2⟩ := T.says.def_ j e2
  obtain ⟨oc, od, dV, kV, doc, pm, an, cdv, ct, osl, q1, lk1, _⟩ := F1.ex
  obtain ⟨oc', od', dV', kV', doc', pm', an', cdv', ct', osl', q2, lk2, _⟩ := F2.ex
  rw [h, lk2] at lk1
  have e := Option.some.inj lk1
  injection e with _ _ e3 _
  injection e3 with e4
  rw [q1, q2] at e4
  exact (congrArg FuncData.name e4).symm
/-- a def of the module, by its name -/
def isDef (x : Str) : Bool := fn.any fun d => decide (d.at_ = (x, none)) && decide (d.name = x)
theorem ga_inj (T : Tx K mg) {x y : Str} (hx : isDef x = true) (hy : isDef y = true) (h : He.ga K x = He.ga K y) : x = y := by
  obtain ⟨d1, m1, q1⟩ := List.any_eq_true.mp hx
  obtain ⟨d2, m2, q2⟩ := List.any_eq_true.mp hy
  obtain ⟨a1, n1⟩ := Bool.and_eq_true_iff.mp q1
  obtain ⟨a2, n2⟩ := Bool.and_eq_true_iff.mp q2
  have a1 := of_decide_eq_true a1
  have a2 := of_decide_eq_true a2
  have n1 := of_decide_eq_true n1
  have n2 := of_decide_eq_true n2
  obtain ⟨i, e1⟩ := List.mem_iff_getElem?.mp m1
  obtain ⟨j, e2⟩ := List.mem_iff_getElem?.mp m2
  have := T.apart e1 e2 (by rw [a1, a2]; exact h)
  rw [← n1, ← n2]
  exact this
/-- promises by names -/
def tabS (K : PySem.W.Frag) (l : List (Str × Sp)) (f : Addr) : Option Sp := (l.find? fun e => decide (He.ga K e.1 = f)).map (·.2)
theorem tabS_of {l : List (Str × Sp)} {f : Addr} {sp : Sp} (h : tabS K l f = some sp) : ∃ x, (x, sp) ∈ l ∧ f = He.ga K x := by
  unfold tabS at h
  cases e : l.find? fun e => decide (He.ga K e.1 = f) with
  | none => rw [e] at h; cases h
  | some p =>
    rw [e] at h
    have h : p.2 = sp := Option.some.inj h
    have m := List.mem_of_find?_eq_some e
    have q0 := List.find?_some e
    have q := of_decide_eq_true q0
    exact ⟨p.1, by rw [← h]; exact m, q.symm⟩
theorem tabS_at (T : Tx K mg) {l : List (Str × Sp)} (nd : (l.map (·.1)).Nodup) (ok : ∀ x ∈ l.map (·.1), isDef x = true) {x : Str} {sp : Sp} (h : (x, sp) ∈ l) : tabS K l (He.ga K x) = some sp := by
  unfold tabS
  cases e : l.find? fun e => decide (He.ga K e.1 = He.ga K x) with
  | none =>
    rw [List.find?_eq_none] at e
    exact absurd (decide_eq_true rfl) (e _ h)
  | some p =>
    have m := List.mem_of_find?_eq_some e
    have q0 := List.find?_some e
    have q := of_decide_eq_true q0
    have ex : p.1 = x := ga_inj T (ok _ (List.mem_map_of_mem m)) (ok _ (List.mem_map_of_mem (f := (·.1)) h)) q
    have key : ∀ {l : List (Str × Sp)}, (l.map (·.1)).Nodup → ∀ {a b : Str × Sp}, a ∈ l → b ∈ l → a.1 = b.1 → a = b := by
      intro l
      induction l with
      | nil => intro _ a b ha; cases ha
      | cons c l ih =>
        intro nd a b ha hb hab
        rw [List.map_cons, List.nodup_cons] at nd
        rcases List.mem_cons.mp ha with e1 | e1 <;> rcases List.mem_cons.mp hb with e2 | e2
        · rw [e1, e2]
        · exact absurd (by rw [← e1, hab]; exact List.mem_map_of_mem e2) nd.1
        · exact absurd (by rw [← e2, ← hab]; exact List.mem_map_of_mem e1) nd.1
        · exact ih nd.2 e1 e2 hab
    rw [key nd m h ex]
    rfl
/-- a def as a value -/
theorem pe_gdef {X : Cx} {x : Str} {pos : Pos} (hm : X.mg x = some (.ref (He.ga K x))) (hg : Gl X x) (hd : (x == ("__debug__" : Str)) = false := by decide) : PE X (.Name x pos) (tC (.ref (He.ga K x))) := pe_glob hg hm rfl hd
theorem Ok.held {x : Str} {ps : List Str} {j k : Nat} {sp : Sp} {base : Heap} (o : Ok P w K mg (x, none) ps j sp) (tb : Tb K mg base) (h : j ≤ k) : Held P w K mg base k (He.ga K x) sp := by
  obtain ⟨⟨fd, F, b⟩, kp⟩ := o
  exact ⟨fd, ps, (F base tb).mono h, kp, binds_all b⟩
end Pv
end
section
set_option Elab.async false
set_option linter.all false
set_option maxRecDepth 100000
set_option maxHeartbeats 2000000
namespace Pv
open PySem PySem.Spec PyProof.Rows L2 Kvg9
open L2 (Dp DpAll)
variable {P : Program} {w : World} {K : PySem.W.Frag} {mg : Str → Option Value}
/-- how an operation's answer is handed back -/
def OutS (K : PySem.W.Frag) (H : Hp) (a : Addr) (m : Mu) (Q : VK) (out : Store × Response) : Prop := ∀ r H' m', StoreAt K H' a out.1 m' → FrT H a m H' m' → Tabs K H' → H r = none → r ∉ m'.av a → H' r = some (.lst ((Kvg9Neutral.resultRow out.2).map V.int)) → Q (.ref r) H'
theorem OutS.after {H H1 : Hp} {a : Addr} {m : Mu} {Q : VK} {out : Store × Response} (s : Same H H1) (k : OutS K H a m Q out) : OutS K H1 a m Q out := fun r H' m' S f t nr no hr => k r H' m' S ⟨fun b o hb nb no => f.st b o (s _ _ hb) nb no, fun b hb => (f.nw b hb).imp id s.free, fun b hb => s.free (f.al b hb)⟩ t (s.free nr) no hr
def spVerIn (K : PySem.W.Frag) : Sp := fun vs H Q _ => ∃ (a : Addr) (s : Store) (m : Mu) (av : List Addr) (n : Nat) (c : Commit), vs = [.ref a, vN n] ∧ StoreG K H a s m av ∧ s.commit n = some c ∧ ∀ d, VerAt K H d c.version → d ∉ av → Q (.ref d) H
theorem sc_version_in : FnScope ["store", "number"] ["store", "number"] (defScope s_version_in) := ⟨rfl, rfl, rfl, by decide +kernel, rfl, by decide +kernel, by decide +kernel⟩
theorem ok_version_in (T : Tx K mg) : Ok P w K mg ("version_in", none) ["store", "number"] 1 (spVerIn K) := by
  refine T.ok (i := 54) (d := d_version_in) rfl rfl sc_version_in (fun vs H Q E h => ?_) (fun _ _ _ _ _ _ us hl => match us, hl with | [_, _], _ => rfl) (fun base tb cdv A outer s H vs Q E hr h => ?_)
  · obtain ⟨a, s, m, av, n, cm, rfl, _⟩ := h
    rfl
  · obtain ⟨a, s, m, av, n, cm, rfl, S, hc, k⟩ := h
    obtain ⟨⟨dx, fs, h1, F⟩, ⟨kc, h2, C⟩, ⟨kb, h3, B⟩, ⟨kt, h4, T'⟩, W, A⟩ := id S
    obtain ⟨c, e1, e2⟩ := C.at_ _ _ hc
    obtain ⟨dy, gs, p, d, g1, g2, g3, g4, g5, g6, g7, g8, g9⟩ := e2.ex
    have gd := DGet.k (k := kI n) h2
    rw [e1] at gd
    have hu := hu_of hr
    refine ⟨_, (pss_one (ps_ret (pe_fld (pe_dget hu (pe_fld (pv 0) rfl) (pv 1) (fun _ _ => rfl)) rfl))), ?_⟩
    exact ⟨_, rfl, _, _, _, _, _, rfl, h1, (T.cls 145), (T.noat 150), F.cm, _, rfl, m.dc, .ref c, rfl, gd, c, _, _, _, _, rfl, g1, (T.cls 139), (T.noat 143), g3, k d g6 g9⟩
def spParent (K : PySem.W.Frag) : Sp := fun vs H Q _ => ∃ (a : Addr) (s : Store) (m : Mu) (av : List Addr) (n q : Nat) (c c2 : Commit), vs = [.ref a, vN n] ∧ StoreG K H a s m av ∧ s.commit n = some c ∧ c.parents = [q] ∧ s.commit q = some c2 ∧ ∀ d, VerAt K H d c2.version → d ∉ av → Q (.ref d) H
theorem sc_parent_version : FnScope ["store", "number"] ["store", "number"] (defScope s_parent_version) := ⟨rfl, rfl, rfl, by decide +kernel, rfl, by decide +kernel, by decide +kernel⟩
theorem ok_parent_version (T : Tx K mg) : Ok P w K mg ("parent_version", none) ["store", "number"] 2 (spParent K) := by
  refine T.ok (i := 55) (d := d_parent_version) rfl rfl sc_parent_version (fun vs H Q E h => ?_) (fun _ _ _ _ _ _ us hl => match us, hl with | [_, _], _ => rfl) (fun base tb cdv A outer s H vs Q E hr h => ?_)
  · obtain ⟨a, s, m, av, n, q, cm, c2, rfl, _⟩ := h
    rfl
  · obtain ⟨a, s, m, av, n, q, cm, c2, rfl, S, hc, hp, hc2, k⟩ := h
    obtain ⟨⟨dx, fs, h1, F⟩, ⟨kc, h2, C⟩, ⟨kb, h3, B⟩, ⟨kt, h4, T'⟩, W, A⟩ := id S
    obtain ⟨c, e1, e2⟩ := C.at_ _ _ hc
    obtain ⟨dy, gs, p, d, g1, g2, g3, g4, g5, g6, g7, g8, g9⟩ := e2.ex
    have gd := DGet.k (k := kI n) h2
    rw [e1] at gd
    rw [hp] at g5
    have hu := hu_of hr
    refine ⟨_, (pss_one (ps_ret (pe_callO (ok_version_in T) tb (T.glo 54) hr rfl (pa_cons (pv 0) (pa_cons (pe_ix (kIxL (K := K) rfl) (pe_fld (pe_dget hu (pe_fld (pv 0) rfl) (pv 1) (fun _ _ => rfl)) rfl) pe_int (fun _ _ => rfl)) pa_nil))))), ?_⟩
    exact ⟨_, rfl, _, rfl, _, _, _, _, _, rfl, h1, (T.cls 145), (T.noat 150), F.cm, _, rfl, m.dc, .ref c, rfl, gd, c, _, _, _, _, rfl, g1, (T.cls 139), (T.noat 142), g2, p, _, _, _, rfl, rfl, SqL.of g5, atI_nat (j := 0) rfl, a, s, m, av, q, c2, rfl, S, hc2, k⟩
def spNoRoom (K : PySem.W.Frag) : Sp := fun vs H Q _ => ∃ (a d : Addr) (s : Store) (m : Mu) (av : List Addr) (v : Version), vs = [.ref a, .ref d] ∧ StoreG K H a s m av ∧ VerAt K H d v ∧ Srt v ∧ Q (.bl (decide (maxFeatures < v.length ∨ maxCommits ≤ s.commits.length))) H
theorem sc_has_no_room : FnScope ["store", "version"] ["store", "version"] (defScope s_has_no_room) := ⟨rfl, rfl, rfl, by decide +kernel, rfl, by decide +kernel, by decide +kernel⟩
theorem ok_has_no_room (T : Tx K mg) : Ok P w K mg ("has_no_room", none) ["store", "version"] 2 (spNoRoom K) := by
  refine T.ok (i := 56) (d := d_has_no_room) rfl rfl sc_has_no_room (fun vs H Q E h => ?_) (fun _ _ _ _ _ _ us hl => match us, hl with | [_, _], _ => rfl) (fun base tb cdv A outer s H vs Q E hr h => ?_)
  · obtain ⟨a, d, s, m, av, v, rfl, _⟩ := h
    rfl
  · obtain ⟨a, d, s, m, av, v, rfl, S, ⟨kv, hd, D⟩, sr, k⟩ := h
    obtain ⟨⟨dx, fs, h1, F⟩, ⟨kc, h2, C⟩, ⟨kb, h3, B⟩, ⟨kt, h4, T'⟩, W, A⟩ := id S
    have lv := D.len sr
    have hu := hu_of hr
    refine ⟨_, (pss_one (ps_ret (pe_or (pe_cmpR op_gt (pe_callB call_lenD (by rfl) (T.free 87) PySem.boot_len (pa_cons (pv 1) pa_nil)) (pe_gint (T.int 103) rfl) (nomark _)) (pe_one (pe_methO0 (pv 0) (ok_Store_is_full T) tb (T.cls 145) (T.meth 158) hr))))), ?_⟩
    refine ⟨_, rfl, d, kv, rfl, hd, _, _, rfl, rfl, ?_⟩
    by_cases h1' : 16 < v.length
    · refine ⟨_, rfl, itT (decide_eq_true (show ((kv.length : Nat) : Int) > 16 by omega)) ?_⟩
      rw [decide_eq_true (.inl h1')] at k
      exact k
    · refine ⟨_, rfl, itF (decide_eq_false (show ¬ ((kv.length : Nat) : Int) > 16 by omega)) ?_⟩
      refine ⟨_, rfl, a, dx, _, rfl, h1, F.only ("is_full" : Str) (by decide +kernel), a, s, m, _, rfl, S, ?_⟩
      rw [show decide (40 ≤ s.commits.length) = decide (maxFeatures < v.length ∨ maxCommits ≤ s.commits.length) from decide_eq_decide.mpr ⟨.inr, fun z => z.resolve_left h1'⟩]
      exact k
def sideV : Option Bool → V
  | none => .non
  | some b => .int (sideI b)
def mergeOut (s : Store) (n : Nat) (side : Option Bool) : Store × Response :=
  if (Kvg9.merge (side.getD false) (s.version (s.commonAncestor s.head n)) (s.version s.head) (s.version n)).2 ≠ [] ∧ side = none then (s, conflictsResult (Kvg9.merge (side.getD false) (s.version (s.commonAncestor s.head n)) (s.version s.head) (s.version n)).2)
  else if maxFeatures < (Kvg9.merge (side.getD false) (s.version (s.commonAncestor s.head n)) (s.version s.head) (s.version n)).1.length ∨ maxCommits ≤ s.commits.length then (s, .error (-28))
  else (s.append [s.head, n] (Kvg9.merge (side.getD false) (s.version (s.commonAncestor s.head n)) (s.version s.head) (s.version n)).1, ⟨2, [(s.commits.length : Int), ((Kvg9.merge (side.getD false) (s.version (s.commonAncestor s.head n)) (s.version s.head) (s.version n)).2.length : Int)]⟩)
def spMergeC (K : PySem.W.Frag) : Sp := fun vs H Q _ => ∃ (a : Addr) (s : Store) (m : Mu) (n : Nat) (side : Option Bool), vs = [.ref a, vN n, sideV side] ∧ StoreAt K H a s m ∧ Good s ∧ Tabs K H ∧ (s.commit n).isSome = true ∧ OutS K H a m Q (mergeOut s n side)
theorem merge_vok {s : Store} (G : Good s) {sd : Bool} {vb vo vt : Version} (ob : VOk s.attributeCount vb) (oo : VOk s.attributeCount vo) (ot : VOk s.attributeCount vt) : Srt (Kvg9.merge sd vb vo vt).1 ∧ ((Kvg9.merge sd vb vo vt).1.length ≤ 16 → VOk s.attributeCount (Kvg9.merge sd vb vo vt).1) := by
  have e : (Kvg9.merge sd vb vo vt).1 = mVer sd vb vo vt (idsOf [vb, vo, vt]) := by rw [merge_eq]; rfl
  rw [e]
  have h1 := mVer_srt (side := sd) (b := vb) (o := vo) (t := vt) (idsOf_strict [vb, vo, vt])
  exact ⟨h1, fun hl => ⟨h1, mVer_fok ob oo ot, hl⟩⟩
theorem merge_cnt (sd : Bool) (vb vo vt : Version) : (Kvg9.merge sd vb vo vt).2.length = (mRowsOf sd vb vo vt).length := by
  unfold mRowsOf
  rw [← merge_rows, List.length_map]
theorem mRows3 {sd : Bool} {vb vo vt : Version} : ∀ r ∈ mRowsOf sd vb vo vt, r.length ≤ 10 := fun r hr => by
  unfold mRowsOf mRows at hr
  obtain ⟨n, _, h⟩ := List.mem_flatMap.mp hr
  obtain ⟨c, _, rfl⟩ := List.mem_map.mp h
  show 3 ≤ 10
  decide
theorem conf_wrote (sd : Bool) (vb vo vt : Version) : Kvg9Neutral.resultRow (conflictsResult (Kvg9.merge sd vb vo vt).2) = -35 :: wrote (mRowsOf sd vb vo vt) := by
  rw [conf_row, merge_rows, merge_cnt]
  rfl
theorem sc_merge_commit : FnScope ["store", "number", "side", "head", "base", "decided", "version", "conflicts"] ["store", "number", "side"] (defScope s_merge_commit) := ⟨rfl, rfl, rfl, by decide +kernel, rfl, by decide +kernel, by decide +kernel⟩
theorem ok_merge_commit (T : Tx K mg) : Ok P w K mg ("merge_commit", none) ["store", "number", "side"] 6 (spMergeC K) := by
  refine T.ok (i := 50) (d := d_merge_commit) rfl rfl sc_merge_commit (fun vs H Q E h => ?_) (fun _ _ _ _ _ _ us hl => match us, hl with | [_, _, _], _ => rfl) (fun base tb cdv A outer s H vs Q E hr h => ?_)
  · obtain ⟨a, s, m, n, side, rfl, _⟩ := h
    rfl
  · obtain ⟨a, s, m, n, side, rfl, S, G, tt, hn, k⟩ := h
    obtain ⟨⟨dx, fs, h1, F⟩, ⟨kc, h2, C⟩, ⟨kb, h3, B⟩, ⟨kt, h4, T'⟩, ⟨kw, h5, D⟩, A⟩ := id S
    obtain ⟨ch, hd1, hd2⟩ := G.head
    have hhl : (s.commit s.head).isSome = true := by rw [hd2]; rfl
    obtain ⟨cn, hcn⟩ := Option.isSome_iff_exists.mp hn
    -- the base is there
    have hbl : ∃ cb, s.commit (s.commonAncestor s.head n) = some cb := by
      obtain ⟨k1, k2, k3⟩ := foldl_max_le ((s.ancestors s.head).filter fun c => (s.ancestors n).contains c) 0
      have e : s.commonAncestor s.head n = (((s.ancestors s.head).filter fun c => (s.ancestors n).contains c).foldl max 0) := rfl
      rw [← e] at k3
      rcases k3 with k3 | k3
      · rw [k3]; exact Option.isSome_iff_exists.mp G.zero
      · have := (mem_anc G.lowP _ _).mp (List.mem_filter.mp k3).1
        exact Option.isSome_iff_exists.mp (this.live G hhl)
    obtain ⟨cb, hcb⟩ := hbl
    unfold mergeOut at k
    rw [ver_of hcb, ver_of hd2, ver_of hcn] at k
    have ob := (G.com _ _ hcb).ver
    have oo := (G.com _ _ hd2).ver
    have ot := (G.com _ _ hcn).ver
    have hu := hu_of hr
    refine ⟨_, (pss_cons (ps_set (i := 3) sc_merge_commit.nd rfl (by first | exact Or.inl rfl | exact Or.inr rfl) (pe_methO0 (pv 0) (ok_Store_head T) tb (T.cls 145) (T.meth 155) hr))
        (pss_cons (ps_set (i := 4) sc_merge_commit.nd rfl (by first | exact Or.inl rfl | exact Or.inr rfl) (pe_callO (ok_version_in T) tb (T.glo 54) hr rfl (pa_cons (pv 0) (pa_cons (pe_callO (ok_greatest_common_ancestor T) tb (T.glo 3) hr rfl (pa_cons (pe_fld (pv 0) rfl) (pa_cons (pv 3) (pa_cons (pv 1) pa_nil)))) pa_nil))))
        (pss_cons (ps_set (i := 5) sc_merge_commit.nd rfl (by first | exact Or.inl rfl | exact Or.inr rfl) (pe_ifExp (pt_cmpR op_isN (pv 2) pe_non (nomark _)) (pe_gint (T.int 124) rfl) (pv 2)))
        (pss_cons (ps_asg (pe_callO (ok_merge_versions T) tb (T.glo 42) hr rfl (pa_cons (pv 4) (pa_cons (pe_methO0 (pv 0) (ok_Store_head_version T) tb (T.cls 145) (T.meth 156) hr) (pa_cons (pe_callO (ok_version_in T) tb (T.glo 54) hr rfl (pa_cons (pv 0) (pa_cons (pv 1) pa_nil))) (pa_cons (pv 5) pa_nil))))) (pg_tup rfl (pgs_cons (pg_name (i := 6) sc_merge_commit.nd rfl (by first | exact Or.inl rfl | exact Or.inr rfl)) (pgs_cons (pg_name (i := 7) sc_merge_commit.nd rfl (by first | exact Or.inl rfl | exact Or.inr rfl)) pgs_nil))))
        (pss_cons (ps_if (PW.pt (pw_and (pt_truth (pv 7) (by intro _; rfl)) (pw_and1 (pt_cmpR op_isN (pv 2) pe_non (nomark _)))))
          (pss_one (ps_ret (pe_op op_cat (pe_lst (pa_cons (pe_gint (T.int 116) rfl) pa_nil)) (pe_callO (ok_counted T) tb (T.glo 21) hr rfl (pa_cons (pv 7) pa_nil))))) pss_nil)
        (pss_cons (ps_if (pt_val (pe_callO (ok_has_no_room T) tb (T.glo 56) hr rfl (pa_cons (pv 0) (pa_cons (pv 6) pa_nil))))
          (pss_one (ps_ret (pe_lst (pa_cons (pe_gint (T.int 114) rfl) pa_nil)))) pss_nil)
        (pss_one (ps_ret (pe_lst (pa_cons (pe_gint (T.int 133) rfl) (pa_cons (pe_methO (pv 0) (ok_Store_make_commit T) tb (T.cls 145) (T.meth 161) hr (pa_cons (pe_lst (pa_cons (pv 3) (pa_cons (pv 1) pa_nil))) (pa_cons (pv 6) pa_nil))) (pa_cons (pe_callB (kLen (K := K) rfl) (by rfl) (T.free 87) PySem.boot_len (pa_cons (pv 7) pa_nil)) pa_nil)))))))))))), ?_⟩
    refine ⟨_, rfl, a, dx, _, rfl, h1, F.only ("head" : Str) (by decide +kernel), a, s, m, _, rfl, S, G.hd, ?_⟩
    refine ⟨_, rfl, _, rfl, _, _, _, _, _, rfl, h1, (T.cls 145), (T.noat 150), F.cm, _, rfl, _, rfl, m.dc, kc, s, _, s.head, n, rfl, h2, C, G, hhl, hn, fun H1 s1 => ?_⟩
    have S1 := S.same s1
    refine ⟨a, s, m, _, _, cb, rfl, S1, hcb, fun d1 v1 _ => ?_⟩
    have h1' := s1 _ _ h1
    generalize esd : side.getD false = sd0 at k
    have two : 2 ≤ sizeLine := by decide
    cases side
    case' none =>
      refine ⟨_, rfl, rfl, _, rfl, ?_⟩
      refine itT rfl ?_
    case' some sd =>
      refine ⟨_, rfl, rfl, _, rfl, ?_⟩
      refine itF rfl ?_
      refine ⟨_, rfl, ?_⟩
    all_goals
      refine ⟨_, rfl, _, rfl, a, dx, _, rfl, h1', F.only ("head_version" : Str) (by decide +kernel), a, s, m, _, rfl, S1, G.hd, fun d2 v2 _ => ?_⟩
      rw [ver_of hd2] at v2
      refine ⟨_, rfl, _, rfl, a, s, m, _, n, cn, rfl, S1, hcn, fun d3 v3 _ => ?_⟩
      refine ⟨_, rfl, d1, d2, d3, cb.version, ch.version, cn.version, sd0, s.attributeCount, (by rw [← esd]; rfl), v1, v2, v3, ob, oo, ot, G.ac, fun H2 p d l rs s2 np hp nd hv nl hl hR => ?_⟩
      have S2 := S1.same s2
      have s12 := s1.trans s2
      have h1'' := s12 _ _ h1
      obtain ⟨sr, vok⟩ := merge_vok (sd := sd0) G ob oo ot
      have lrs : rs.length = (Kvg9.merge sd0 cb.version ch.version cn.version).2.length := by rw [hR.len, merge_cnt]
      have l48 : (mRowsOf sd0 cb.version ch.version cn.version).length ≤ 960 := by
        have := mRows_len (side := sd0) (o := ch.version) (t := cn.version) ob G.ac (idsOf [cb.version, ch.version, cn.version])
        have := ids3_len ob.len oo.len ot.len
        unfold mRowsOf
        omega
      refine ⟨p, _, rfl, SqT.of hp, rfl, _, _, rfl, _, _, rfl, rfl, ?_⟩
      refine ⟨_, rfl, !rs.isEmpty, .inl ⟨rs, SqL.of hl, rfl⟩, ?_⟩
      generalize hres : Kvg9.merge sd0 cb.version ch.version cn.version = res at k hv sr vok lrs
    case' none =>
      by_cases hrs : rs = []
      case' neg =>
        refine itT (by cases rs; exact absurd rfl hrs; rfl) ?_
        refine ⟨_, rfl, rfl, _, rfl, ?_⟩
        refine itT rfl ?_
        have hne : res.2 ≠ [] := fun z => hrs (List.eq_nil_of_length_eq_zero (by rw [lrs, z]; rfl))
        rw [if_pos ⟨hne, rfl⟩] at k
        refine ⟨by show 1 ≤ sizeLine; decide, fun q nq => ?_⟩
        have s3 := same_upd (o := .lst [V.int (-35)]) nq
        refine ⟨_, rfl, l, rs, mRowsOf sd0 cb.version ch.version cn.version, rfl, .inl (SqL.of (s3 _ _ hl)), (RowsN.same (fun b o h _ => s3 b o h) hR).rows, by omega, mRows3, fun H4 r s4 nr hr => ?_⟩
        refine ⟨q, r, _, _, rfl, rfl, s4 _ _ upd_same, hr, ?_, fun z nz => ?_⟩
        · have := flat_len (rs := mRowsOf sd0 cb.version ch.version cn.version) mRows3
          have hw : (wrote (mRowsOf sd0 cb.version ch.version cn.version)).length ≤ 9601 := by
            unfold wrote
            rw [List.length_cons]
            omega
          rw [List.length_map]
          exact small' (m := 20000) (show 1 + _ ≤ 20000 by omega)
        · refine same_done (out := (s, conflictsResult res.2)) (l := -35 :: wrote (mRowsOf sd0 cb.version ch.version cn.version)) S tt rfl (by rw [← hres, conf_wrote]) k (s12.trans (s3.trans (s4.trans (same_upd nz)))) ((s12.trans (s3.trans s4)).free nz) ?_
          rw [upd_same]
          rfl
      case' pos => refine itF (by rw [hrs]; rfl) ?_
      case' pos => have hno : ¬ (res.2 ≠ [] ∧ (none : Option Bool) = none) := fun z => z.1 (List.eq_nil_of_length_eq_zero (by rw [← lrs, hrs]; rfl))
    case' some =>
      have hno : ¬ (res.2 ≠ [] ∧ (some sd : Option Bool) = none) := fun z => by cases z.2
      by_cases hrs : rs = []
      case' pos => refine itF (by rw [hrs]; rfl) ?_
      case' neg =>
        refine itT (by cases rs; exact absurd rfl hrs; rfl) ?_
        refine ⟨_, rfl, rfl, _, rfl, ?_⟩
        refine itF rfl ?_
    all_goals
      rw [if_neg hno] at k
      have k2 := OutS.after s12 k
      have tt2 := (Fr.of_same (a := a) (m := m) s12).tabs S tt
      refine ⟨_, rfl, _, rfl, a, d, s, m, _, res.1, rfl, S2, hv, sr, _, rfl, ?_⟩
      by_cases room : maxFeatures < res.1.length ∨ maxCommits ≤ s.commits.length
      · refine itT (decide_eq_true room) ?_
        rw [if_pos room] at k2
        exact lit_done (out := (s, .error (-28))) S2 tt2 rfl rfl rfl k2
      · refine itF (decide_eq_false room) ?_
        rw [if_neg room] at k2
        refine ⟨_, rfl, a, dx, _, rfl, h1'', F.only ("make_commit" : Str) (by decide +kernel), _, rfl, _, rfl, two, fun p2 np2 => ?_⟩
        have s3 := same_upd (o := .lst [vN s.head, vN n]) np2
        have h16 : ¬ 16 < res.1.length := fun z => room (.inl z)
        have h40 : ¬ 40 ≤ s.commits.length := fun z => room (.inr z)
        refine ⟨_, rfl, a, s, m, p2, d, [s.head, n], res.1, rfl, S2.same s3, G, by omega, upd_same, not_av S2 np2, Nat.le_refl 2, fun q hq => ?_, hv.same s3, .inr (not_av S1 nd), vok (by omega), fun H6 dw nd6 S6 f6 => ?_⟩
        · rcases List.mem_cons.mp hq with e | hq
          · rw [e]; exact hhl
          · have : q = n := by simpa using hq
            rw [this]; exact hn
        have hl6 : H6 l = some (.lst rs) := f6.st _ _ (s3 _ _ hl) (not_av S1 nl)
        refine ⟨_, rfl, l, rs, rfl, .inl (SqL.of hl6), ?_⟩
        refine new_done (l := [2, (s.commits.length : Int), (res.2.length : Int)]) S2 tt2 S6 ((Fr.of_same s3).trans f6) rfl rfl ?_ k2
        rw [lrs]
        rfl
end Pv
end
section
set_option Elab.async false
set_option linter.all false
set_option maxRecDepth 100000
set_option maxHeartbeats 2000000
namespace Pv
open PySem PySem.Spec PyProof.Rows L2 Kvg9
open L2 (Dp DpAll)
variable {P : Program} {w : World} {K : PySem.W.Frag} {mg : Str → Option Value}
def spMergeB (K : PySem.W.Frag) : Sp := fun vs H Q _ => ∃ (a : Addr) (s : Store) (m : Mu) (b : Nat) (side : Option Bool), vs = [.ref a, vN b, sideV side] ∧ StoreAt K H a s m ∧ Good s ∧ Tabs K H ∧ OutS K H a m Q (s.mergeBranch b side)
theorem isAnc_eq {s : Store} (G : Good s) (n c : Nat) : decide (n ∈ ancL s c) = s.isAncestor n c := by
  unfold Store.isAncestor
  by_cases h : n ∈ ancL s c
  · rw [decide_eq_true h]
    exact (List.contains_iff_mem.mpr ((mem_anc G.lowP c n).mpr ((mem_ancL G c n).mp h))).symm
  · rw [decide_eq_false h]
    cases e : (s.ancestors c).contains n with
    | false => rfl
    | true => exact absurd ((mem_ancL G c n).mpr ((mem_anc G.lowP c n).mp (List.contains_iff_mem.mp e))) h
theorem sc_merge_branch : FnScope ["store", "branch", "side", "head", "number"] ["store", "branch", "side"] (defScope s_merge_branch) := ⟨rfl, rfl, rfl, by decide +kernel, rfl, by decide +kernel, by decide +kernel⟩
theorem ok_merge_branch (T : Tx K mg) : Ok P w K mg ("merge_branch", none) ["store", "branch", "side"] 7 (spMergeB K) := by
  refine T.ok (i := 49) (d := d_merge_branch) rfl rfl sc_merge_branch (fun vs H Q E h => ?_) (fun _ _ _ _ _ _ us hl => match us, hl with | [_, _, _], _ => rfl) (fun base tb cdv A outer s H vs Q E hr h => ?_)
  · obtain ⟨a, s, m, b, side, rfl, _⟩ := h
    rfl
  · obtain ⟨a, s, m, b, side, rfl, S, G, tt, k⟩ := h
    obtain ⟨⟨dx, fs, h1, F⟩, ⟨kc, h2, C⟩, ⟨kb, h3, B⟩, ⟨kt, h4, T'⟩, ⟨kw, h5, D⟩, A⟩ := id S
    obtain ⟨ch, hd1, hd2⟩ := G.head
    have hhl : (s.commit s.head).isSome = true := by rw [hd2]; rfl
    have er : s.mergeBranch b side = match lookup s.branches b with
      | none => (s, .error (-2))
      | some theirs => if s.isChanged then (s, .error (-16)) else if s.isAncestor theirs s.head then (s, ⟨0, [(s.head : Int)]⟩)
        else if s.isAncestor s.head theirs then ({ s with branches := assign s.current theirs s.branches, working := s.version theirs }, ⟨1, [(theirs : Int)]⟩)
        else mergeOut s theirs side := rfl
    rw [er] at k
    have hu := hu_of hr
    refine ⟨_, (pss_cons (ps_if (pt_cmp (pc_dnotin hu (pv 1) (pe_fld (pv 0) rfl)))
          (pss_one (ps_ret (pe_lst (pa_cons (pe_gint (T.int 108) rfl) pa_nil)))) pss_nil)
        (pss_cons (ps_if (pt_val (pe_methO0 (pv 0) (ok_Store_is_changed T) tb (T.cls 145) (T.meth 157) hr))
          (pss_one (ps_ret (pe_lst (pa_cons (pe_gint (T.int 111) rfl) pa_nil)))) pss_nil)
        (pss_cons (ps_set (i := 3) sc_merge_branch.nd rfl (by first | exact Or.inl rfl | exact Or.inr rfl) (pe_methO0 (pv 0) (ok_Store_head T) tb (T.cls 145) (T.meth 155) hr))
        (pss_cons (ps_set (i := 4) sc_merge_branch.nd rfl (by first | exact Or.inl rfl | exact Or.inr rfl) (pe_dget hu (pe_fld (pv 0) rfl) (pv 1) (fun _ _ => rfl)))
        (pss_cons (ps_if (pt_cmpR (kIn (K := K) rfl) (pv 4) (pe_callO (ok_ancestors T) tb (T.glo 2) hr rfl (pa_cons (pe_fld (pv 0) rfl) (pa_cons (pv 3) pa_nil))) (by rfl))
          (pss_one (ps_ret (pe_lst (pa_cons (pe_gint (T.int 131) rfl) (pa_cons (pv 3) pa_nil))))) pss_nil)
        (pss_cons (ps_if (pt_cmpR (kIn (K := K) rfl) (pv 3) (pe_callO (ok_ancestors T) tb (T.glo 2) hr rfl (pa_cons (pe_fld (pv 0) rfl) (pa_cons (pv 4) pa_nil))) (by rfl))
          (pss_cons (ps_expr (pe_methO (pv 0) (ok_Store_move_head T) tb (T.cls 145) (T.meth 162) hr (pa_cons (pv 4) pa_nil)))
        (pss_one (ps_ret (pe_lst (pa_cons (pe_gint (T.int 132) rfl) (pa_cons (pv 4) pa_nil)))))) pss_nil)
        (pss_one (ps_ret (pe_callO (ok_merge_commit T) tb (T.glo 50) hr rfl (pa_cons (pv 0) (pa_cons (pv 4) (pa_cons (pv 2) pa_nil)))))))))))), ?_⟩
    refine ⟨_, rfl, _, rfl, _, _, _, _, _, rfl, h1, (T.cls 145), (T.noat 148), F.br, m.db, _, rfl, DGet.k (k := kI b) h3, _, rfl, ?_⟩
    have hbs := B.isSome b
    cases hb : lookup s.branches b with
    | none =>
      rw [hb] at hbs k
      rw [hbs]
      refine itT rfl ?_
      exact lit_done (out := (s, .error (-2))) S tt rfl rfl rfl k
    | some th =>
      rw [hb] at hbs k
      rw [hbs]
      refine itF rfl ?_
      replace k : OutS K H a m Q (if s.isChanged then (s, .error (-16)) else if s.isAncestor th s.head then (s, ⟨0, [(s.head : Int)]⟩)
        else if s.isAncestor s.head th then ({ s with branches := assign s.current th s.branches, working := s.version th }, ⟨1, [(th : Int)]⟩)
        else mergeOut s th side) := k
      have hth := (G.br.at_ _ (look_mem hb)).1
      have hth : (s.commit th).isSome = true := hth
      have gd := DGet.k (k := kI b) h3
      rw [B.get, hb] at gd
      refine ⟨_, rfl, a, dx, _, rfl, h1, F.only ("is_changed" : Str) (by decide +kernel), a, s, m, _, rfl, S, G, _, rfl, ?_⟩
      cases hch : s.isChanged with
      | true =>
        refine itT rfl ?_
        rw [if_pos hch] at k
        exact lit_done (out := (s, .error (-16))) S tt rfl rfl rfl k
      | false =>
        refine itF rfl ?_
        rw [if_neg (by rw [hch]; simp)] at k
        refine ⟨_, rfl, a, dx, _, rfl, h1, F.only ("head" : Str) (by decide +kernel), a, s, m, _, rfl, S, G.hd, ?_⟩
        refine ⟨_, rfl, _, _, _, _, _, rfl, h1, (T.cls 145), (T.noat 148), F.br, _, rfl, m.db, _, rfl, gd, ?_⟩
        refine ⟨_, rfl, _, rfl, _, _, _, _, _, rfl, h1, (T.cls 145), (T.noat 150), F.cm, _, rfl, m.dc, kc, s, _, s.head, rfl, h2, C, G, hhl, fun H1 p s1 np hp => ?_⟩
        refine ⟨p, (ancL s s.head).map vN, rfl, .inl (SqL.of hp), rfl, flat_nat _, _, rfl, ?_⟩
        show if inV (vN th) ((ancL s s.head).map vN) = true then _ else _
        rw [inV_nat, isAnc_eq G]
        have tt1 := (Fr.of_same (a := a) (m := m) s1).tabs S tt
        cases ha : s.isAncestor th s.head with
        | true =>
          refine itT rfl ?_
          rw [if_pos ha] at k
          exact ⟨_, rfl, lit_done (out := (s, ⟨0, [(s.head : Int)]⟩)) (S.same s1) tt1 rfl rfl rfl (OutS.after s1 k)⟩
        | false =>
          refine itF rfl ?_
          rw [if_neg (by rw [ha]; simp)] at k
          have h1' := s1 _ _ h1
          refine ⟨_, rfl, _, rfl, _, _, _, _, _, rfl, h1', (T.cls 145), (T.noat 150), F.cm, _, rfl, m.dc, kc, s, _, th, rfl, s1 _ _ h2, C.same s1, G, hth, fun H2 p2 s2 np2 hp2 => ?_⟩
          refine ⟨p2, (ancL s th).map vN, rfl, .inl (SqL.of hp2), rfl, flat_nat _, _, rfl, ?_⟩
          show if inV (vN s.head) ((ancL s th).map vN) = true then _ else _
          rw [inV_nat, isAnc_eq G]
          have s12 := s1.trans s2
          have tt2 := (Fr.of_same (a := a) (m := m) s12).tabs S tt
          have h1'' := s12 _ _ h1
          have S2 := S.same s12
          cases hb2 : s.isAncestor s.head th with
          | true =>
            refine itT rfl ?_
            rw [if_pos hb2] at k
            refine ⟨_, rfl, a, dx, _, rfl, h1'', F.only ("move_head" : Str) (by decide +kernel), _, rfl, a, s, m, _, th, rfl, S2, fun _ h => co_av h, G.br.srt, G.br.len, Option.isSome_iff_exists.mp hth, fun H3 dw nd S3 f3 => ⟨_, rfl, ?_⟩⟩
            exact new_done S2 tt2 S3 f3 rfl rfl rfl (OutS.after s12 k)
          | false =>
            refine itF rfl ?_
            rw [if_neg (by rw [hb2]; simp)] at k
            exact ⟨_, rfl, _, rfl, _, rfl, a, s, m, th, side, rfl, S2, G, tt2, hth, OutS.after s12 k⟩
theorem sc_merge : FnScope ["store", "given"] ["store", "given"] (defScope s_merge) := ⟨rfl, rfl, rfl, by decide +kernel, rfl, by decide +kernel, by decide +kernel⟩
theorem ok_merge (T : Tx K mg) : Ok P w K mg ("merge", none) ["store", "given"] 8 (spRun K g1 (fun _ => True) Operation.merge) := by
  refine T.ok (i := 47) (d := d_merge) rfl rfl sc_merge (fun vs H Q E h => ?_) (fun _ _ _ _ _ _ us hl => match us, hl with | [_, _], _ => rfl) (fun base tb cdv A outer s H vs Q E hr h => ?_)
  · obtain ⟨a, s, m, g, x, xs, rfl, _⟩ := h
    rfl
  · obtain ⟨a, s, m, g, x, xs, rfl, S, G, tt, hg, rfl, hx, k⟩ := h
    obtain ⟨⟨dx, fs, h1, F⟩, ⟨kc, h2, C⟩, ⟨kb, h3, B⟩, ⟨kt, h4, T'⟩, ⟨kw, h5, D⟩, A⟩ := id S
    obtain ⟨na, nb, nt, nw⟩ := S.ne_a
    have hu := hu_of hr
    refine ⟨_, (pss_one (ps_ret (pe_callO (ok_merge_branch T) tb (T.glo 49) hr rfl (pa_cons (pv 0) (pa_cons (pe_ix (kIxL (K := K) rfl) (pv 1) pe_int (fun _ _ => rfl)) (pa_cons pe_non pa_nil)))))), ?_⟩
    exact ⟨_, rfl, _, rfl, g, _, _, _, rfl, rfl, SqL.of hg, atI_nat (j := 0) rfl, a, s, m, x, none, rfl, S, G, tt, k⟩
theorem sc_merge_with : FnScope ["store", "given", "branch", "side"] ["store", "given"] (defScope s_merge_with) := ⟨rfl, rfl, rfl, by decide +kernel, rfl, by decide +kernel, by decide +kernel⟩
theorem ok_merge_with (T : Tx K mg) : Ok P w K mg ("merge_with", none) ["store", "given"] 8 (spRun K g2 (fun _ => True) (fun x => Operation.mergeWith x.1 x.2)) := by
  refine T.ok (i := 48) (d := d_merge_with) rfl rfl sc_merge_with (fun vs H Q E h => ?_) (fun _ _ _ _ _ _ us hl => match us, hl with | [_, _], _ => rfl) (fun base tb cdv A outer s H vs Q E hr h => ?_)
  · obtain ⟨a, s, m, g, x, xs, rfl, _⟩ := h
    rfl
  · obtain ⟨a, s, m, g, x, xs, rfl, S, G, tt, hg, rfl, hx, k⟩ := h
    obtain ⟨⟨dx, fs, h1, F⟩, ⟨kc, h2, C⟩, ⟨kb, h3, B⟩, ⟨kt, h4, T'⟩, ⟨kw, h5, D⟩, A⟩ := id S
    obtain ⟨na, nb, nt, nw⟩ := S.ne_a
    have hu := hu_of hr
    refine ⟨_, (pss_cons (ps_asg (pv 1) (pg_unl rfl (pgs_cons (pg_name (i := 2) sc_merge_with.nd rfl (by first | exact Or.inl rfl | exact Or.inr rfl)) (pgs_cons (pg_name (i := 3) sc_merge_with.nd rfl (by first | exact Or.inl rfl | exact Or.inr rfl)) pgs_nil))))
        (pss_cons (ps_if (pt_cmpR op_gt (pv 3) (pe_gint (T.int 125) rfl) (nomark _))
          (pss_one (ps_ret (pe_lst (pa_cons (pe_gint (T.int 113) rfl) pa_nil)))) pss_nil)
        (pss_one (ps_ret (pe_callO (ok_merge_branch T) tb (T.glo 49) hr rfl (pa_cons (pv 0) (pa_cons (pv 2) (pa_cons (pv 3) pa_nil)))))))), ?_⟩
    obtain ⟨b, sd⟩ := x
    dsimp only at hg k
    have er : s.run (.mergeWith b sd) = if 1 < sd then (s, .error (-22)) else s.mergeBranch b (some (sd == 1)) := rfl
    refine ⟨_, rfl, g, _, rfl, SqL.of hg, rfl, _, _, rfl, _, _, rfl, rfl, ?_⟩
    refine ⟨_, rfl, _, _, rfl, rfl, _, rfl, ?_⟩
    by_cases h1' : 1 < sd
    · refine itT (decide_eq_true (show ((sd : Nat) : Int) > 1 by omega)) ?_
      rw [if_pos h1'] at er
      exact lit_done S tt (by rw [er]) (by rw [er] <;> rfl) rfl k
    · refine itF (decide_eq_false (show ¬ ((sd : Nat) : Int) > 1 by omega)) ?_
      rw [if_neg h1'] at er
      have es : vN sd = sideV (some (sd == 1)) := by
        rcases (show sd = 0 ∨ sd = 1 by omega) with e | e <;> rw [e] <;> rfl
      refine ⟨_, rfl, _, rfl, _, rfl, a, s, m, b, some (sd == 1), by rw [← es]; rfl, S, G, tt, ?_⟩
      rw [er] at k
      exact k
end Pv
end
section
set_option Elab.async false
set_option linter.all false
set_option maxRecDepth 100000
set_option maxHeartbeats 2000000
namespace Pv
open PySem PySem.Spec PyProof.Rows L2 Kvg9
open L2 (Dp DpAll)
variable {P : Program} {w : World} {K : PySem.W.Frag} {mg : Str → Option Value}
def tabA (K : PySem.W.Frag) : List (Str × Sp) := [("version_in", spVerIn K), ("parent_version", spParent K)]
theorem heldA {base : Heap} {k : Nat} (T : Tx K mg) (tb : Tb K mg base) (hk : 2 ≤ k) : ∀ f sp, tabS K (tabA K) f = some sp → Held P w K mg base k f sp := fun f sp h => by
  obtain ⟨x, hx, rfl⟩ := tabS_of h
  rcases List.mem_cons.mp hx with e | hx
  · cases e
    exact (ok_version_in T).held tb (by omega)
  · rcases List.mem_cons.mp hx with e | hx
    · cases e
      exact (ok_parent_version T).held tb hk
    · cases hx
theorem tabA_nd : ((tabA K).map (·.1)).Nodup := by
  show ([("version_in" : Str), ("parent_version" : Str)]).Nodup
  decide +kernel
theorem tabA_ok : ∀ x ∈ (tabA K).map (·.1), isDef x = true := by
  show ∀ x ∈ [("version_in" : Str), ("parent_version" : Str)], isDef x = true
  decide +kernel
def applyOut (s : Store) (n : Nat) (pb pt : Nat → Nat → Nat) : Store × Response := if s.exists_ n = false then (s, .error (-2)) else match s.singleParent n with
  | none => (s, .error (-33))
  | some p => if s.isChanged then (s, .error (-16)) else s.apply (pb n p) (pt n p)
/-- a def that gives a version of a commit with one parent -/
def Gives (K : PySem.W.Frag) (a : Addr) (s : Store) (m : Mu) (n : Nat) (sp : Sp) (pb : Nat → Nat → Nat) : Prop := ∀ cm q, s.commit n = some cm → cm.parents = [q] → (∃ c, s.commit (pb n q) = some c) ∧ ∀ H1 Q' E', StoreAt K H1 a s m → (∀ d, VerAt K H1 d (s.version (pb n q)) → d ∉ m.av a → Q' (.ref d) H1) → sp [.ref a, vN n] H1 Q' E'
theorem gives_in {a : Addr} {s : Store} {m : Mu} {n : Nat} : Gives K a s m n (spVerIn K) (fun n _ => n) := fun cm q hc hp => ⟨⟨cm, hc⟩, fun H1 Q' E' S k => ⟨a, s, m, _, n, cm, rfl, S, hc, fun d hd nd => k d (by rw [ver_of hc]; exact hd) nd⟩⟩
theorem gives_par {a : Addr} {s : Store} {m : Mu} {n : Nat} (G : Good s) : Gives K a s m n (spParent K) (fun _ q => q) := fun cm q hc hp => by
  obtain ⟨c2, hc2⟩ := Option.isSome_iff_exists.mp ((G.com n cm hc).low q (by rw [hp]; simp)).2
  exact ⟨⟨c2, hc2⟩, fun H1 Q' E' S k => ⟨a, s, m, _, n, q, cm, c2, rfl, S, hc, hp, hc2, fun d hd nd => k d (by rw [ver_of hc2]; exact hd) nd⟩⟩
def spApply (K : PySem.W.Frag) : Sp := fun vs H Q _ => ∃ (a : Addr) (s : Store) (m : Mu) (n : Nat) (fb ft : Addr) (spB spT : Sp) (pb pt : Nat → Nat → Nat), vs = [.ref a, vN n, .ref fb, .ref ft] ∧ StoreAt K H a s m ∧ Good s ∧ Tabs K H ∧ tabS K (tabA K) fb = some spB ∧ tabS K (tabA K) ft = some spT ∧ Gives K a s m n spB pb ∧ Gives K a s m n spT pt ∧ OutS K H a m Q (applyOut s n pb pt)
theorem sc_apply_commit : FnScope ["store", "number", "base_of", "theirs_of", "ours", "version", "conflicts"] ["store", "number", "base_of", "theirs_of"] (defScope s_apply_commit) := ⟨rfl, rfl, rfl, by decide +kernel, rfl, by decide +kernel, by decide +kernel⟩
theorem ok_apply_commit (T : Tx K mg) : Ok P w K mg ("apply_commit", none) ["store", "number", "base_of", "theirs_of"] 7 (spApply K) := by
  refine T.ok (i := 53) (d := d_apply_commit) rfl rfl sc_apply_commit (fun vs H Q E h => ?_) (fun _ _ _ _ _ _ us hl => match us, hl with | [_, _, _, _], _ => rfl) (fun base tb cdv A outer s H vs Q E hr h => ?_)
  · obtain ⟨a, s, m, n, fb, ft, spB, spT, pb, pt, rfl, _⟩ := h
    rfl
  · obtain ⟨a, s, m, n, fb, ft, spB, spT, pb, pt, rfl, S, G, tt, hB, hT, gB, gT, k⟩ := h
    obtain ⟨⟨dx, fs, h1, F⟩, ⟨kc, h2, C⟩, ⟨kb, h3, B⟩, ⟨kt, h4, T'⟩, ⟨kw, h5, D⟩, A⟩ := id S
    obtain ⟨ch, hd1, hd2⟩ := G.head
    have two : 2 ≤ sizeLine := by decide
    have HELD := heldA (P := P) (w := w) (k := 6) T tb (by decide)
    unfold applyOut at k
    have hu := hu_of hr
    have hu65 := hu65_of hr
    refine ⟨_, (pss_cons (ps_if (pt_cmp (pc_dnotin hu (pv 1) (pe_fld (pv 0) rfl)))
          (pss_one (ps_ret (pe_lst (pa_cons (pe_gint (T.int 108) rfl) pa_nil)))) pss_nil)
        (pss_cons (ps_if (pt_cmpR op_ne (pe_callB (kLen (K := K) rfl) (by rfl) (T.free 87) PySem.boot_len (pa_cons (pe_fld (pe_dget hu (pe_fld (pv 0) rfl) (pv 1) (fun _ _ => rfl)) rfl) pa_nil)) pe_int (nomark _))
          (pss_one (ps_ret (pe_lst (pa_cons (pe_gint (T.int 115) rfl) pa_nil)))) pss_nil)
        (pss_cons (ps_if (pt_val (pe_methO0 (pv 0) (ok_Store_is_changed T) tb (T.cls 145) (T.meth 157) hr))
          (pss_one (ps_ret (pe_lst (pa_cons (pe_gint (T.int 111) rfl) pa_nil)))) pss_nil)
        (pss_cons (ps_set (i := 4) sc_apply_commit.nd rfl (by first | exact Or.inl rfl | exact Or.inr rfl) (pe_methO0 (pv 0) (ok_Store_head_version T) tb (T.cls 145) (T.meth 156) hr))
        (pss_cons (ps_asg (pe_callO (ok_merge_versions T) tb (T.glo 42) hr rfl (pa_cons (pe_callA (i := 2) HELD hr rfl (by first | exact Or.inl rfl | exact Or.inr (Or.inl rfl)) (pa_cons (pv 0) (pa_cons (pv 1) pa_nil))) (pa_cons (pv 4) (pa_cons (pe_callA (i := 3) HELD hr rfl (by first | exact Or.inl rfl | exact Or.inr (Or.inl rfl)) (pa_cons (pv 0) (pa_cons (pv 1) pa_nil))) (pa_cons (pe_gint (T.int 124) rfl) pa_nil))))) (pg_tup rfl (pgs_cons (pg_name (i := 5) sc_apply_commit.nd rfl (by first | exact Or.inl rfl | exact Or.inr rfl)) (pgs_cons (pg_name (i := 6) sc_apply_commit.nd rfl (by first | exact Or.inl rfl | exact Or.inr rfl)) pgs_nil))))
        (pss_cons (ps_if (pt_truth (pv 6) (by intro _; rfl))
          (pss_one (ps_ret (pe_op op_cat (pe_lst (pa_cons (pe_gint (T.int 116) rfl) pa_nil)) (pe_callO (ok_counted T) tb (T.glo 21) hr rfl (pa_cons (pv 6) pa_nil))))) pss_nil)
        (pss_cons (ps_if (pt_cmpR (kVerEq (K := K) rfl hu65) (pv 5) (pv 4) (nomark _))
          (pss_one (ps_ret (pe_lst (pa_cons (pe_gint (T.int 109) rfl) pa_nil)))) pss_nil)
        (pss_cons (ps_if (pt_val (pe_callO (ok_has_no_room T) tb (T.glo 56) hr rfl (pa_cons (pv 0) (pa_cons (pv 5) pa_nil))))
          (pss_one (ps_ret (pe_lst (pa_cons (pe_gint (T.int 114) rfl) pa_nil)))) pss_nil)
        (pss_one (ps_ret (pe_lst (pa_cons (pe_methO (pv 0) (ok_Store_make_commit T) tb (T.cls 145) (T.meth 161) hr (pa_cons (pe_lst (pa_cons (pe_methO0 (pv 0) (ok_Store_head T) tb (T.cls 145) (T.meth 155) hr) pa_nil)) (pa_cons (pv 5) pa_nil))) pa_nil)))))))))))), ?_⟩
    refine ⟨_, rfl, _, rfl, _, _, _, _, _, rfl, h1, (T.cls 145), (T.noat 150), F.cm, m.dc, _, rfl, DGet.k (k := kI n) h2, _, rfl, ?_⟩
    rw [C.isSome]
    cases hc : s.exists_ n with
    | false =>
      rw [show (s.commit n).isSome = false from hc]
      refine itT (c := !false) rfl ?_
      rw [if_pos hc] at k
      exact lit_done (out := (s, .error (-2))) S tt rfl rfl rfl k
    | true =>
      have hx' : (s.commit n).isSome = true := hc
      rw [hx']
      refine itF (c := !true) rfl ?_
      rw [if_neg (by rw [hc]; simp)] at k
      obtain ⟨cm, hcm⟩ := Option.isSome_iff_exists.mp hx'
      obtain ⟨c, e1, e2⟩ := C.at_ _ _ hcm
      obtain ⟨dy, gs, p, d, g1, g2, g3, g4, g5, g6, g7, g8, g9⟩ := e2.ex
      have gd := DGet.k (k := kI n) h2
      rw [e1] at gd
      refine ⟨_, rfl, _, _, _, _, _, rfl, h1, (T.cls 145), (T.noat 150), F.cm, _, rfl, m.dc, .ref c, rfl, gd, c, _, _, _, _, rfl, g1, (T.cls 139), (T.noat 142), g2, p, _, rfl, .inl (SqL.of g5), rfl, _, rfl, ?_⟩
      rw [List.length_map]
      by_cases one : cm.parents.length = 1
      · obtain ⟨q, hq⟩ := List.length_eq_one_iff.mp one
        have esp : s.singleParent n = some q := by unfold Store.singleParent; rw [par_of hcm, hq]
        rw [esp] at k
        replace k : OutS K H a m Q (if s.isChanged then (s, .error (-16)) else s.apply (pb n q) (pt n q)) := k
        refine itF (by rw [one]; rfl) ?_
        refine ⟨_, rfl, a, dx, _, rfl, h1, F.only ("is_changed" : Str) (by decide +kernel), a, s, m, _, rfl, S, G, _, rfl, ?_⟩
        cases hch : s.isChanged with
        | true =>
          refine itT rfl ?_
          rw [if_pos hch] at k
          exact lit_done (out := (s, .error (-16))) S tt rfl rfl rfl k
        | false =>
          refine itF rfl ?_
          rw [if_neg (by rw [hch]; simp)] at k
          obtain ⟨⟨cb, hcb⟩, gB⟩ := gB cm q hcm hq
          obtain ⟨⟨ct, hct⟩, gT⟩ := gT cm q hcm hq
          have ob := (G.com _ _ hcb).ver
          have oo := (G.com _ _ hd2).ver
          have ot := (G.com _ _ hct).ver
          unfold Store.apply at k
          rw [ver_of hcb, ver_of hd2, ver_of hct] at k
          refine ⟨_, rfl, a, dx, _, rfl, h1, F.only ("head_version" : Str) (by decide +kernel), a, s, m, _, rfl, S, G.hd, fun d2 v2 n2 => ?_⟩
          rw [ver_of hd2] at v2
          refine ⟨fb, spB, rfl, hB, _, rfl, _, rfl, gB H _ _ S fun d1 v1 _ => ?_⟩
          rw [ver_of hcb] at v1
          refine ⟨_, rfl, ft, spT, rfl, hT, _, rfl, _, rfl, gT H _ _ S fun d3 v3 _ => ?_⟩
          rw [ver_of hct] at v3
          refine ⟨d1, d2, d3, cb.version, ch.version, ct.version, false, s.attributeCount, rfl, v1, v2, v3, ob, oo, ot, G.ac, fun H2 p d l rs s2 np hp nd hv nl hl hR => ?_⟩
          have S2 := S.same s2
          have h1'' := s2 _ _ h1
          obtain ⟨sr, vok⟩ := merge_vok (sd := false) G ob oo ot
          have lrs : rs.length = (Kvg9.merge false cb.version ch.version ct.version).2.length := by rw [hR.len, merge_cnt]
          have l48 : (mRowsOf false cb.version ch.version ct.version).length ≤ 960 := by
            have := mRows_len (side := false) (o := ch.version) (t := ct.version) ob G.ac (idsOf [cb.version, ch.version, ct.version])
            have := ids3_len ob.len oo.len ot.len
            unfold mRowsOf
            omega
          refine ⟨p, _, rfl, SqT.of hp, rfl, _, _, rfl, _, _, rfl, rfl, ?_⟩
          refine ⟨_, rfl, !rs.isEmpty, .inl ⟨rs, SqL.of hl, rfl⟩, ?_⟩
          generalize hres : Kvg9.merge false cb.version ch.version ct.version = res at k hv sr vok lrs
          replace k : OutS K H a m Q (if res.2 ≠ [] then (s, conflictsResult res.2) else if res.1 = ch.version then (s, .error (-6)) else if maxFeatures < res.1.length ∨ maxCommits ≤ s.commits.length then (s, .error (-28)) else (s.append [s.head] res.1, .number s.commits.length)) := k
          by_cases hrs : rs = []
          · refine itF (by rw [hrs]; rfl) ?_
            have hno : ¬ res.2 ≠ [] := fun z => z (List.eq_nil_of_length_eq_zero (by rw [← lrs, hrs]; rfl))
            rw [if_neg hno] at k
            have k2 := OutS.after s2 k
            have tt2 := (Fr.of_same (a := a) (m := m) s2).tabs S tt
            refine ⟨_, rfl, _, rfl, d, d2, res.1, ch.version, rfl, rfl, hv, v2.same s2, sr, oo.srt, _, rfl, ?_⟩
            by_cases same : res.1 = ch.version
            · refine itT (decide_eq_true same) ?_
              rw [if_pos same] at k2
              exact lit_done (out := (s, .error (-6))) S2 tt2 rfl rfl rfl k2
            refine itF (decide_eq_false same) ?_
            rw [if_neg same] at k2
            refine ⟨_, rfl, _, rfl, a, d, s, m, _, res.1, rfl, S2, hv, sr, _, rfl, ?_⟩
            by_cases room : maxFeatures < res.1.length ∨ maxCommits ≤ s.commits.length
            · refine itT (decide_eq_true room) ?_
              rw [if_pos room] at k2
              exact lit_done (out := (s, .error (-28))) S2 tt2 rfl rfl rfl k2
            · refine itF (decide_eq_false room) ?_
              rw [if_neg room] at k2
              have h16 : ¬ 16 < res.1.length := fun z => room (.inl z)
              have h40 : ¬ 40 ≤ s.commits.length := fun z => room (.inr z)
              refine ⟨_, rfl, a, dx, _, rfl, h1'', F.only ("make_commit" : Str) (by decide +kernel), _, rfl, a, dx, _, rfl, h1'', F.only ("head" : Str) (by decide +kernel), a, s, m, _, rfl, S2, G.hd, by show 1 ≤ sizeLine; decide, fun p2 np2 => ?_⟩
              have s3 := same_upd (o := .lst [vN s.head]) np2
              refine ⟨_, rfl, a, s, m, p2, d, [s.head], res.1, rfl, S2.same s3, G, by omega, upd_same, not_av S2 np2, by show 1 ≤ 2; decide, fun q hq => ?_, hv.same s3, .inr (not_av S nd), vok (by omega), fun H6 dw nd6 S6 f6 => ?_⟩
              · have : q = s.head := by simpa using hq
                rw [this, hd2]; rfl
              exact new_done (l := [(s.commits.length : Int)]) S2 tt2 S6 ((Fr.of_same s3).trans f6) rfl rfl rfl k2
          · refine itT (by cases rs; exact absurd rfl hrs; rfl) ?_
            have hne : res.2 ≠ [] := fun z => hrs (List.eq_nil_of_length_eq_zero (by rw [lrs, z]; rfl))
            rw [if_pos hne] at k
            refine ⟨by show 1 ≤ sizeLine; decide, fun q nq => ?_⟩
            have s3 := same_upd (o := .lst [V.int (-35)]) nq
            refine ⟨_, rfl, l, rs, mRowsOf false cb.version ch.version ct.version, rfl, .inl (SqL.of (s3 _ _ hl)), (RowsN.same (fun b o h _ => s3 b o h) hR).rows, by omega, mRows3, fun H4 r s4 nr hr => ?_⟩
            refine ⟨q, r, _, _, rfl, rfl, s4 _ _ upd_same, hr, ?_, fun z nz => ?_⟩
            · have := flat_len (rs := mRowsOf false cb.version ch.version ct.version) mRows3
              have hw : (wrote (mRowsOf false cb.version ch.version ct.version)).length ≤ 9601 := by
                unfold wrote
                rw [List.length_cons]
                omega
              rw [List.length_map]
              exact small' (m := 20000) (show 1 + _ ≤ 20000 by omega)
            · refine same_done (out := (s, conflictsResult res.2)) (l := -35 :: wrote (mRowsOf false cb.version ch.version ct.version)) S tt rfl (by rw [← hres, conf_wrote]) k (s2.trans (s3.trans (s4.trans (same_upd nz)))) ((s2.trans (s3.trans s4)).free nz) ?_
              rw [upd_same]
              rfl
      · have esp : s.singleParent n = none := by
          unfold Store.singleParent
          rw [par_of hcm]
          split
          · rename_i q hq
            rw [hq] at one
            exact absurd rfl one
          · rfl
        rw [esp] at k
        refine itT (by
          rw [decide_eq_false (fun z => one (by have := V.int.inj z; omega))]; rfl) ?_
        exact lit_done (out := (s, .error (-33))) S tt rfl rfl rfl k
theorem sc_revert : FnScope ["store", "given"] ["store", "given"] (defScope s_revert) := ⟨rfl, rfl, rfl, by decide +kernel, rfl, by decide +kernel, by decide +kernel⟩
theorem ok_revert (T : Tx K mg) : Ok P w K mg ("revert", none) ["store", "given"] 8 (spRun K g1 (fun _ => True) Operation.revert) := by
  refine T.ok (i := 51) (d := d_revert) rfl rfl sc_revert (fun vs H Q E h => ?_) (fun _ _ _ _ _ _ us hl => match us, hl with | [_, _], _ => rfl) (fun base tb cdv A outer s H vs Q E hr h => ?_)
  · obtain ⟨a, s, m, g, x, xs, rfl, _⟩ := h
    rfl
  · obtain ⟨a, s, m, g, x, xs, rfl, S, G, tt, hg, rfl, hx, k⟩ := h
    obtain ⟨⟨dx, fs, h1, F⟩, ⟨kc, h2, C⟩, ⟨kb, h3, B⟩, ⟨kt, h4, T'⟩, ⟨kw, h5, D⟩, A⟩ := id S
    obtain ⟨na, nb, nt, nw⟩ := S.ne_a
    have hu := hu_of hr
    refine ⟨_, (pss_one (ps_ret (pe_callO (ok_apply_commit T) tb (T.glo 53) hr rfl (pa_cons (pv 0) (pa_cons (pe_ix (kIxL (K := K) rfl) (pv 1) pe_int (fun _ _ => rfl)) (pa_cons (pe_gdef (K := K) (T.glo 54) rfl) (pa_cons (pe_gdef (K := K) (T.glo 55) rfl) pa_nil))))))), ?_⟩
    have HT1 : tabS K (tabA K) (He.ga K "version_in") = some (spVerIn K) := tabS_at T (l := tabA K) tabA_nd tabA_ok (by simp [tabA])
    have HT2 : tabS K (tabA K) (He.ga K "parent_version") = some (spParent K) := tabS_at T (l := tabA K) tabA_nd tabA_ok (by simp [tabA])
    refine ⟨_, rfl, _, rfl, g, _, _, _, rfl, rfl, SqL.of hg, atI_nat (j := 0) rfl, a, s, m, x, He.ga K "version_in", He.ga K "parent_version", _, _, _, _, rfl, S, G, tt, HT1, HT2, gives_in, gives_par G, ?_⟩
    exact k
theorem sc_cherry_pick : FnScope ["store", "given"] ["store", "given"] (defScope s_cherry_pick) := ⟨rfl, rfl, rfl, by decide +kernel, rfl, by decide +kernel, by decide +kernel⟩
theorem ok_cherry_pick (T : Tx K mg) : Ok P w K mg ("cherry_pick", none) ["store", "given"] 8 (spRun K g1 (fun _ => True) Operation.cherryPick) := by
  refine T.ok (i := 52) (d := d_cherry_pick) rfl rfl sc_cherry_pick (fun vs H Q E h => ?_) (fun _ _ _ _ _ _ us hl => match us, hl with | [_, _], _ => rfl) (fun base tb cdv A outer s H vs Q E hr h => ?_)
  · obtain ⟨a, s, m, g, x, xs, rfl, _⟩ := h
    rfl
  · obtain ⟨a, s, m, g, x, xs, rfl, S, G, tt, hg, rfl, hx, k⟩ := h
    obtain ⟨⟨dx, fs, h1, F⟩, ⟨kc, h2, C⟩, ⟨kb, h3, B⟩, ⟨kt, h4, T'⟩, ⟨kw, h5, D⟩, A⟩ := id S
    obtain ⟨na, nb, nt, nw⟩ := S.ne_a
    have hu := hu_of hr
    refine ⟨_, (pss_one (ps_ret (pe_callO (ok_apply_commit T) tb (T.glo 53) hr rfl (pa_cons (pv 0) (pa_cons (pe_ix (kIxL (K := K) rfl) (pv 1) pe_int (fun _ _ => rfl)) (pa_cons (pe_gdef (K := K) (T.glo 55) rfl) (pa_cons (pe_gdef (K := K) (T.glo 54) rfl) pa_nil))))))), ?_⟩
    have HT1 : tabS K (tabA K) (He.ga K "version_in") = some (spVerIn K) := tabS_at T (l := tabA K) tabA_nd tabA_ok (by simp [tabA])
    have HT2 : tabS K (tabA K) (He.ga K "parent_version") = some (spParent K) := tabS_at T (l := tabA K) tabA_nd tabA_ok (by simp [tabA])
    refine ⟨_, rfl, _, rfl, g, _, _, _, rfl, rfl, SqL.of hg, atI_nat (j := 0) rfl, a, s, m, x, He.ga K "parent_version", He.ga K "version_in", _, _, _, _, rfl, S, G, tt, HT2, HT1, gives_par G, gives_in, ?_⟩
    exact k
end Pv
end
section
set_option Elab.async false
set_option linter.all false
set_option maxRecDepth 100000
set_option maxHeartbeats 2000000
namespace Pv
open PySem PySem.Spec PyProof.Rows L2 Kvg9
open L2 (Dp DpAll)
variable {P : Program} {w : World} {K : PySem.W.Frag} {mg : Str → Option Value}
theorem kZipT {X : Cx} (h : X.K = K) {e e2 : Expr} {ta : TA} {p pos tpos : Pos} {elts : List Expr} {kk : Nat} (hg : Gl X "zip") (hm : X.mg "zip" = none) (ha : PA X [e, e2] ta)
    (hs : starEach [e, e2] X.env = (false, eval e X.env) :: starEach [e2] X.env := by rfl) (hpl : (backTo pos (starEach [e2] X.env)).any (·.1) = false := by rfl) :
    PI X (.Tuple elts kk tpos) (.Call (.Name "zip" p) [e, e2] [] pos) (RZ.iZipA K ta) := by subst h; exact RZ.pi_zipA hg hm ha hs hpl
/-- a vertex within the bounds -/
def VB (v : Int × Int) : Prop := (-1000000 ≤ v.1 ∧ v.1 ≤ 1000000) ∧ (-1000000 ≤ v.2 ∧ v.2 ≤ 1000000)
def spSqd (K : PySem.W.Frag) : Sp := fun vs H Q _ => ∃ (x y : V) (p q : Int × Int), vs = [x, y] ∧ Dp K H x (dV p) ∧ Dp K H y (dV q) ∧ VB p ∧ VB q ∧ Q (vN (squaredDistance p q)) H
theorem sc_squared_distance : FnScope ["first", "second", "x", "y"] ["first", "second"] (defScope s_squared_distance) := ⟨rfl, rfl, rfl, by decide +kernel, rfl, by decide +kernel, by decide +kernel⟩
theorem ok_squared_distance (T : Tx K mg) : Ok P w K mg ("squared_distance", none) ["first", "second"] 1 (spSqd K) := by
  refine T.ok (i := 19) (d := d_squared_distance) rfl rfl sc_squared_distance (fun vs H Q E h => ?_) (fun _ _ _ _ _ _ us hl => match us, hl with | [_, _], _ => rfl) (fun base tb cdv A outer s H vs Q E hr h => ?_)
  · obtain ⟨x, y, p, q, rfl, _⟩ := h
    rfl
  · obtain ⟨x, y, p, q, rfl, hx, hy, bp, bq, k⟩ := h
    obtain ⟨a, rfl, ta⟩ := dp_vert hx
    obtain ⟨b, rfl, tb'⟩ := dp_vert hy
    unfold VB at bp bq
    have hu := hu_of hr
    refine ⟨_, (pss_cons (ps_set (i := 2) sc_squared_distance.nd rfl (by first | exact Or.inl rfl | exact Or.inr rfl) (pe_op op_sub (pe_ix (kIxT (K := K) rfl) (pv 1) pe_int (fun _ _ => rfl)) (pe_ix (kIxT (K := K) rfl) (pv 0) pe_int (fun _ _ => rfl))))
        (pss_cons (ps_set (i := 3) sc_squared_distance.nd rfl (by first | exact Or.inl rfl | exact Or.inr rfl) (pe_op op_sub (pe_ix (kIxT (K := K) rfl) (pv 1) pe_int (fun _ _ => rfl)) (pe_ix (kIxT (K := K) rfl) (pv 0) pe_int (fun _ _ => rfl))))
        (pss_one (ps_ret (pe_op op_add (pe_op op_mul (pv 2) (pv 2)) (pe_op op_mul (pv 3) (pv 3))))))), ?_⟩
    refine ⟨_, rfl, b, _, _, _, rfl, rfl, tb', atI_nat (j := 0) rfl, _, rfl, a, _, _, _, rfl, rfl, ta, atI_nat (j := 0) rfl, _, _, rfl, rfl, ?_⟩
    refine ⟨_, rfl, b, _, _, _, rfl, rfl, tb', atI_nat (j := 1) rfl, _, rfl, a, _, _, _, rfl, rfl, ta, atI_nat (j := 1) rfl, _, _, rfl, rfl, ?_⟩
    refine ⟨_, rfl, _, rfl, _, _, rfl, rfl, .inl ⟨by omega, by omega⟩, _, rfl, _, rfl, _, _, rfl, rfl, .inl ⟨by omega, by omega⟩, _, _, rfl, rfl, ?_⟩
    have e := sqd_cast p q
    unfold vN at k
    rw [e] at k
    exact k
structure Verts (K : PySem.W.Frag) (H : Hp) (a : Addr) (l : List (Int × Int)) : Prop where
  ex : ∃ xs, SqT K H a xs ∧ DpAll K H xs (l.map dV)
theorem Verts.same {H H' : Hp} {a : Addr} {l : List (Int × Int)} (s : Same H H') (h : Verts K H a l) : Verts K H' a l := by
  obtain ⟨xs, t, d⟩ := h.ex
  exact ⟨xs, t.same s, DpAllT.tup (Tup.of s) _ _ (noLs_map dv_noL' _) d⟩
where dv_noL' (v : Int × Int) : noL (dV v) = true := rfl
structure VBs (l : List (Int × Int)) : Prop where
  ne : 1 ≤ l.length
  len : l.length ≤ 12
  all : ∀ v ∈ l, VB v
def spGd (K : PySem.W.Frag) : Sp := fun vs H Q _ => ∃ (a b : Addr) (la lb : List (Int × Int)), vs = [.ref a, .ref b] ∧ Verts K H a la ∧ Verts K H b lb ∧ VBs la ∧ VBs lb ∧ ∀ H', Same H H' → Q (vN (gDist la lb)) H'
theorem sc_greatest_distance : FnScope ["first", "second", "vertex", "other"] ["first", "second"] (defScope s_greatest_distance) := ⟨rfl, rfl, rfl, by decide +kernel, rfl, by decide +kernel, by decide +kernel⟩
theorem ok_greatest_distance (T : Tx K mg) : Ok P w K mg ("greatest_distance", none) ["first", "second"] 2 (spGd K) := by
  refine T.ok (i := 20) (d := d_greatest_distance) rfl rfl sc_greatest_distance (fun vs H Q E h => ?_) (fun _ _ _ _ _ _ us hl => match us, hl with | [_, _], _ => rfl) (fun base tb cdv A outer s H vs Q E hr h => ?_)
  · obtain ⟨a, b, la, lb, rfl, _⟩ := h
    rfl
  · obtain ⟨a, b, la, lb, rfl, ⟨xs, ta, da⟩, ⟨ys, tb', db⟩, va, vb, k⟩ := h
    have lx : xs.length = la.length := by rw [DpAll.len da, List.length_map]
    have ly : ys.length = lb.length := by rw [DpAll.len db, List.length_map]
    have l1 := va.len
    have l2 := vb.len
    have hu := hu_of hr
    refine ⟨_, (pss_one (ps_ret (pe_callB (kMax (K := K) rfl rfl) (by rfl) (T.free 89) (by decide +kernel) (pa_cons (pe_lc (own := [("vertex", 2)]) rfl sc_greatest_distance.nd (kPiT (K := K) rfl (pv 0)) (blkOk_by (N := ["first", "second", "vertex", "other"]) (sc := defScope s_greatest_distance) (by decide +kernel)) (fun _ _ _ _ _ => (pg_name (i := 2) sc_greatest_distance.nd rfl (by first | exact Or.inl rfl | exact Or.inr rfl))) (fun _ _ _ _ _ => pts_nil) (fun _ _ _ _ _ => (pe_callB (kMin (K := K) rfl rfl) (by rfl) (T.free 90) (by decide +kernel) (pa_cons (pe_lc (own := [("other", 3)]) rfl sc_greatest_distance.nd (kPiT (K := K) rfl (pv 1)) (blkOk_by (N := ["first", "second", "vertex", "other"]) (by kernel_rfl)) (fun _ _ _ _ _ => (pg_name (i := 3) sc_greatest_distance.nd rfl (by first | exact Or.inl rfl | exact Or.inr rfl))) (fun _ _ _ _ _ => pts_nil) (fun _ _ _ _ _ => (pe_callO (ok_squared_distance T) tb (T.glo 19) hr rfl (pa_cons (pv 2) (pa_cons (pv 3) pa_nil))))) pa_nil)))) pa_nil)))), ?_⟩
    refine ⟨_, rfl, a, rfl, ⟨_, ta⟩, fun D nD => lc_tup (K := K) (a := a) (xs := xs) (LcP H D (fun i acc _ => acc = ((la.take i).map fun v => vN (nearest v lb)))) (LcP.start nD rfl) (fun i H' _ q => ta.same q.1) ?_ ?_⟩
    · rintro i x H1 hx ⟨s1, acc, hD, hA, r⟩
      obtain ⟨dv, e1, d1⟩ := DpAll.at' da hx
      rw [List.getElem?_map] at e1
      cases ev : la[i]? with
      | none => rw [ev] at e1; cases e1
      | some v =>
        rw [ev] at e1
        obtain rfl : dV v = dv := Option.some.inj e1
        have hi := (List.getElem?_eq_some_iff.mp ev).1
        have bv := va.all v (List.mem_of_getElem? ev)
        refine ⟨rfl, ?_⟩
        refine ⟨_, rfl, b, rfl, ⟨_, tb'.same s1⟩, fun D2 nD2 => lc_tup (K := K) (a := b) (xs := ys) (LcP H1 D2 (fun j acc _ => acc = ((lb.take j).map fun u => vN (squaredDistance v u)))) (LcP.start nD2 rfl) (fun i H' _ q => tb'.same (s1.trans q.1)) ?_ ?_⟩
        · rintro j y H2 hy ⟨s2, acc2, hD2, hA2, r2⟩
          obtain ⟨du, e2, d2⟩ := DpAll.at' db hy
          rw [List.getElem?_map] at e2
          cases eu : lb[j]? with
          | none => rw [eu] at e2; cases e2
          | some u =>
            rw [eu] at e2
            obtain rfl : dV u = du := Option.some.inj e2
            have hj := (List.getElem?_eq_some_iff.mp eu).1
            have bu := vb.all u (List.mem_of_getElem? eu)
            have sA := s1.trans s2
            refine ⟨rfl, ?_⟩
            refine ⟨_, rfl, _, rfl, x, y, v, u, rfl, DpT.tup (Tup.of sA) _ _ rfl d1, DpT.tup (Tup.of sA) _ _ rfl d2, bv, bu, ?_⟩
            refine LcP.put (n := 1000) nD2 s2 hD2 hA2 (Same.refl _) (by omega) ?_
            show acc2 ++ [_] = _
            rw [show acc2 = _ from r2, take_snoc eu, List.map_append]
            rfl
        · rintro H2 ⟨s2, acc2, hD2, hA2, r2⟩
          have r2 : acc2 = ((lb.take ys.length).map fun u => vN (squaredDistance v u)) := r2
          rw [ly, List.take_length] at r2
          refine ⟨D2, (lb.map (squaredDistance v)).map fun n : Nat => (n : Int), rfl, SqL.of ?_, ?_, fun m hm hmin => ?_⟩
          · rw [hD2, r2, List.map_map, List.map_map]; rfl
          · rw [List.length_map, List.length_map]; exact vb.ne
          · obtain ⟨c, hc, rfl⟩ := List.mem_map.mp hm
            rw [nearest_is hc fun y hy => by
              have := hmin y (List.mem_map_of_mem hy)
              omega]
            refine LcP.put (n := 1000) nD s1 hD hA s2 (by omega) ?_
            show acc ++ [_] = _
            rw [show acc = _ from r, take_snoc ev, List.map_append]
            rfl
    · rintro H1 ⟨s1, acc, hD, hA, r⟩
      have r : acc = ((la.take xs.length).map fun v => vN (nearest v lb)) := r
      rw [lx, List.take_length] at r
      refine ⟨D, (la.map fun v => nearest v lb).map fun n : Nat => (n : Int), rfl, SqL.of ?_, ?_, fun m hm hmax => ?_⟩
      · rw [hD, r, List.map_map, List.map_map]; rfl
      · rw [List.length_map, List.length_map]; exact va.ne
      · obtain ⟨c, hc, rfl⟩ := List.mem_map.mp hm
        rw [max_is hc fun y hy => by
          have := hmax y (List.mem_map_of_mem hy)
          omega]
        exact k H1 s1
/-- the same after a shift -/
def spIsMv (K : PySem.W.Frag) : Sp := fun vs H Q _ => ∃ (a b : Addr) (la lb : List (Int × Int)), vs = [.ref a, .ref b] ∧ Verts K H a la ∧ Verts K H b lb ∧ VBs la ∧ VBs lb ∧ ∀ H', Same H H' → Q (.bl (shiftedV la lb)) H'
theorem head_at {l : List (Int × Int)} (h : 1 ≤ l.length) : l[0]? = some (l.headD (0, 0)) := by
  cases l with
  | nil => simp at h
  | cons a l => rfl
theorem sc_is_moved : FnScope ["first", "second", "x", "y", "before", "after"] ["first", "second"] (defScope s_is_moved) := ⟨rfl, rfl, rfl, by decide +kernel, rfl, by decide +kernel, by decide +kernel⟩
theorem ok_is_moved (T : Tx K mg) : Ok P w K mg ("is_moved", none) ["first", "second"] 1 (spIsMv K) := by
  refine T.ok (i := 18) (d := d_is_moved) rfl rfl sc_is_moved (fun vs H Q E h => ?_) (fun _ _ _ _ _ _ us hl => match us, hl with | [_, _], _ => rfl) (fun base tb cdv A outer s H vs Q E hr h => ?_)
  · obtain ⟨a, b, la, lb, rfl, _⟩ := h
    rfl
  · obtain ⟨a, b, la, lb, rfl, ⟨xs, ta, da⟩, ⟨ys, tb', db⟩, va, vb, k⟩ := h
    have lx : xs.length = la.length := by rw [DpAll.len da, List.length_map]
    have ly : ys.length = lb.length := by rw [DpAll.len db, List.length_map]
    have l1 := va.len
    unfold shiftedV at k
    have hu := hu_of hr
    have hu64 := hr.units
    refine ⟨_, (pss_cons (ps_if (pt_cmpR op_ne (pe_callB (kLen (K := K) rfl) (by rfl) (T.free 87) PySem.boot_len (pa_cons (pv 0) pa_nil)) (pe_callB (kLen (K := K) rfl) (by rfl) (T.free 87) PySem.boot_len (pa_cons (pv 1) pa_nil)) (nomark _))
          (pss_one (ps_ret pe_bl)) pss_nil)
        (pss_cons (ps_set (i := 2) sc_is_moved.nd rfl (by first | exact Or.inl rfl | exact Or.inr rfl) (pe_op op_sub (pe_ix (kIxT (K := K) rfl) (pe_ix (kIxT (K := K) rfl) (pv 1) pe_int (fun _ _ => rfl)) pe_int (fun _ _ => rfl)) (pe_ix (kIxT (K := K) rfl) (pe_ix (kIxT (K := K) rfl) (pv 0) pe_int (fun _ _ => rfl)) pe_int (fun _ _ => rfl))))
        (pss_cons (ps_set (i := 3) sc_is_moved.nd rfl (by first | exact Or.inl rfl | exact Or.inr rfl) (pe_op op_sub (pe_ix (kIxT (K := K) rfl) (pe_ix (kIxT (K := K) rfl) (pv 1) pe_int (fun _ _ => rfl)) pe_int (fun _ _ => rfl)) (pe_ix (kIxT (K := K) rfl) (pe_ix (kIxT (K := K) rfl) (pv 0) pe_int (fun _ _ => rfl)) pe_int (fun _ _ => rfl))))
        (pss_one (ps_ret (pe_callB (kAll (K := K) rfl rfl) (by rfl) (T.free 83) (by decide +kernel) (pa_cons (pe_lc (own := [("before", 4), ("after", 5)]) rfl sc_is_moved.nd (kZipT (K := K) rfl (by rfl) (T.free 95) (pa_cons (pv 0) (pa_cons (pv 1) pa_nil))) (blkOk_by (N := ["first", "second", "x", "y", "before", "after"]) (sc := defScope s_is_moved) (by decide +kernel)) (fun _ _ _ _ _ => (kPgT (K := K) (n := 2) rfl rfl (pgs_cons (pg_name (i := 4) sc_is_moved.nd rfl (by first | exact Or.inl rfl | exact Or.inr rfl)) (pgs_cons (pg_name (i := 5) sc_is_moved.nd rfl (by first | exact Or.inl rfl | exact Or.inr rfl)) pgs_nil)))) (fun _ _ _ _ _ => pts_nil) (fun _ _ _ _ _ => (pe_cmpR (kEqD (K := K) rfl hu64) (pe_tup (pa_cons (pe_op op_add (pe_ix (kIxT (K := K) rfl) (pv 4) pe_int (fun _ _ => rfl)) (pv 2)) (pa_cons (pe_op op_add (pe_ix (kIxT (K := K) rfl) (pv 4) pe_int (fun _ _ => rfl)) (pv 3)) pa_nil))) (pv 5) (nomark _)))) pa_nil))))))), ?_⟩
    refine ⟨_, rfl, a, xs, rfl, .inr ta, _, rfl, b, ys, rfl, .inr tb', rfl, _, rfl, ?_⟩
    rw [lx, ly]
    by_cases e1 : la.length = lb.length
    · refine itF (by rw [e1, decide_eq_true rfl]; rfl) ?_
      rw [beq_iff_eq.mpr e1, Bool.true_and] at k
      obtain ⟨x0, f0, d0⟩ := DpAll.at da (i := 0) (d := dV (la.headD (0, 0))) (by rw [List.getElem?_map, head_at va.ne]; rfl)
      obtain ⟨y0, g0, c0⟩ := DpAll.at db (i := 0) (d := dV (lb.headD (0, 0))) (by rw [List.getElem?_map, head_at vb.ne]; rfl)
      obtain ⟨xa, rfl, tx⟩ := dp_vert d0
      obtain ⟨ya, rfl, ty⟩ := dp_vert c0
      refine ⟨_, rfl, b, _, _, _, rfl, rfl, tb', atI_nat (j := 0) g0, ya, _, _, _, rfl, rfl, ty, atI_nat (j := 0) rfl, _, rfl, a, _, _, _, rfl, rfl, ta, atI_nat (j := 0) f0, xa, _, _, _, rfl, rfl, tx, atI_nat (j := 0) rfl, _, _, rfl, rfl, ?_⟩
      refine ⟨_, rfl, b, _, _, _, rfl, rfl, tb', atI_nat (j := 0) g0, ya, _, _, _, rfl, rfl, ty, atI_nat (j := 1) rfl, _, rfl, a, _, _, _, rfl, rfl, ta, atI_nat (j := 0) f0, xa, _, _, _, rfl, rfl, tx, atI_nat (j := 1) rfl, _, _, rfl, rfl, ?_⟩
      generalize (la.headD (0, 0)) = p0 at k ⊢
      generalize (lb.headD (0, 0)) = q0 at k ⊢
      have lz : (la.zip lb).length = la.length := by rw [List.length_zip]; omega
      refine ⟨_, rfl, _, rfl, a, b, xs, ys, rfl, .inr ⟨ta, tb', fun D nD => lc_any (n := la.length) (LcP H D (RB ((la.zip lb).map fun q => decide (q.2.1 - q.1.1 = q0.1 - p0.1) && decide (q.2.2 - q.1.2 = q0.2 - p0.2)))) (LcP.start nD rfl) ?_ ?_ ?_ ?_⟩⟩
      · rintro i H1 hi ⟨s1, _⟩
        exact ⟨_, _, _, _, ta.same s1, tb'.same s1, List.getElem?_eq_getElem (by omega), List.getElem?_eq_getElem (by omega)⟩
      · rintro H1 ⟨s1, _⟩
        exact ⟨_, _, ta.same s1, tb'.same s1, .inl (by omega)⟩
      · rintro i x H1 H1' hi ⟨s1, acc, hD, hA, r⟩ ⟨T, x, y, rfl, nT, rfl, hx, hy⟩
        have hx := hx _ (ta.same s1)
        have hy := hy _ (tb'.same s1)
        obtain ⟨du, eu, d1⟩ := DpAll.at' da hx
        obtain ⟨dv, ev, d2⟩ := DpAll.at' db hy
        rw [List.getElem?_map] at eu ev
        cases hu : la[i]? with
        | none => rw [hu] at eu; cases eu
        | some u =>
          cases hv : lb[i]? with
          | none => rw [hv] at ev; cases ev
          | some v =>
            rw [hu] at eu
            rw [hv] at ev
            obtain rfl : dV u = du := Option.some.inj eu
            obtain rfl : dV v = dv := Option.some.inj ev
            have sT := same_upd (o := .tup [x, y]) nT
            obtain ⟨ua, rfl, tu⟩ := dp_vert (DpT.tup (Tup.of (s1.trans sT)) _ _ rfl d1)
            have d2' := DpT.tup (Tup.of (s1.trans sT)) _ _ rfl d2
            refine ⟨T, _, rfl, SqT.of upd_same, rfl, _, _, rfl, _, _, rfl, rfl, ?_⟩
            refine ⟨rfl, ?_⟩
            refine ⟨_, rfl, ua, _, _, _, rfl, rfl, tu, atI_nat (j := 0) rfl, _, rfl, _, _, rfl, rfl, _, rfl, ua, _, _, _, rfl, rfl, tu, atI_nat (j := 1) rfl, _, rfl, _, _, rfl, rfl, by show 2 ≤ sizeLine; decide, fun p np => ?_⟩
            have sp := same_upd (o := .tup [V.int (u.1 + (q0.1 - p0.1)), V.int (u.2 + (q0.2 - p0.2))]) np
            refine ⟨_, rfl, dV (u.1 + (q0.1 - p0.1), u.2 + (q0.2 - p0.2)), dV v, dp_vert' (SqT.of upd_same), DpT.tup (Tup.of sp) _ _ rfl d2', enc_vert.sh _, enc_vert.sh _, ?_⟩
            rw [enc_vert.eqd]
            refine LcP.put (n := 1000) nD s1 hD hA (sT.trans sp) (by omega) ?_
            have ez : ((la.zip lb).map fun q => decide (q.2.1 - q.1.1 = q0.1 - p0.1) && decide (q.2.2 - q.1.2 = q0.2 - p0.2))[i]? = some (decide ((u.1 + (q0.1 - p0.1), u.2 + (q0.2 - p0.2)) = v)) := by
              have ezz : (la.zip lb)[i]? = some (u, v) := List.getElem?_zip_eq_some.mpr ⟨hu, hv⟩
              rw [List.getElem?_map, ezz]
              show some (decide (v.1 - u.1 = q0.1 - p0.1) && decide (v.2 - u.2 = q0.2 - p0.2)) = _
              congr 1
              rw [Bool.eq_iff_iff, Bool.and_eq_true, decide_eq_true_eq, decide_eq_true_eq, decide_eq_true_eq]
              constructor
              · rintro ⟨h1, h2⟩
                refine Prod.ext ?_ ?_
                · show u.1 + (q0.1 - p0.1) = v.1
                  omega
                · show u.2 + (q0.2 - p0.2) = v.2
                  omega
              · intro h
                rw [← h]
                exact ⟨by show u.1 + (q0.1 - p0.1) - u.1 = _; omega, by show u.2 + (q0.2 - p0.2) - u.2 = _; omega⟩
            exact RB.next r ez
      · rintro H1 ⟨s1, acc, hD, hA, r⟩
        have r : acc = ((((la.zip lb).map fun q => decide (q.2.1 - q.1.1 = q0.1 - p0.1) && decide (q.2.2 - q.1.2 = q0.2 - p0.2)).take la.length).map V.bl) := r
        rw [List.take_of_length_le (by rw [List.length_map, lz]; exact Nat.le_refl _)] at r
        refine ⟨D, _, rfl, SqL.of (by rw [hD, r]), ?_⟩
        rw [List.all_map]
        exact k H1 s1
    · refine itT (by rw [decide_eq_false (fun z => e1 (by have := V.int.inj z; omega))]; rfl) ?_
      rw [show (la.length == lb.length) = false by simpa using e1, Bool.false_and] at k
      exact k H (Same.refl H)
end Pv
end
section
set_option Elab.async false
set_option linter.all false
set_option maxRecDepth 100000
set_option maxHeartbeats 2000000
namespace Pv
open PySem PySem.Spec PyProof.Rows L2 Kvg9
open L2 (Dp DpAll)
variable {P : Program} {w : World} {K : PySem.W.Frag} {mg : Str → Option Value}
def tOrS (t1 t2 : TS) : TS := fun D σ H => t1 D σ H ∨ t2 D σ H
theorem ps_or {X : Cx} {st : Stmt} {t1 t2 : TS} (h1 : PS X st t1) (h2 : PS X st t2) : PS X st (tOrS t1 t2) := ⟨fun pins s σ H D I h => h.elim (h1.run pins s σ H D I) (h2.run pins s σ H D I)⟩
theorem max_if (i j : Nat) : (if ((j : Nat) : Int) > ((i : Nat) : Int) then ((j : Nat) : Int) else ((i : Nat) : Int)) = ((max i j : Nat) : Int) := by
  split <;> omega
def spCorr (K : PySem.W.Frag) : Sp := fun vs H Q _ => ∃ (a b : Addr) (la lb : List (Int × Int)), vs = [.ref a, .ref b] ∧ Verts K H a la ∧ Verts K H b lb ∧ VBs la ∧ VBs lb ∧ ∀ H' p, Same H H' → H p = none → H' p = some (.tup [vN (corrV la lb).1, vN (corrV la lb).2]) → Q (.ref p) H'
theorem sc_correspondence : FnScope ["first", "second"] ["first", "second"] (defScope s_correspondence) := ⟨rfl, rfl, rfl, by decide +kernel, rfl, by decide +kernel, by decide +kernel⟩
theorem ok_correspondence (T : Tx K mg) : Ok P w K mg ("correspondence", none) ["first", "second"] 3 (spCorr K) := by
  refine T.ok (i := 17) (d := d_correspondence) rfl rfl sc_correspondence (fun vs H Q E h => ?_) (fun _ _ _ _ _ _ us hl => match us, hl with | [_, _], _ => rfl) (fun base tb cdv A outer s H vs Q E hr h => ?_)
  · obtain ⟨a, b, la, lb, rfl, _⟩ := h
    rfl
  · obtain ⟨a, b, la, lb, rfl, ha, hb, va, vb, k⟩ := h
    obtain ⟨xs, ta, da⟩ := ha.ex
    obtain ⟨ys, tb', db⟩ := hb.ex
    have two : 2 ≤ sizeLine := by decide
    unfold corrV at k
    have hu := hu_of hr
    have hu64 := hr.units
    refine ⟨_, (pss_cons (ps_if (pt_cmpR (kEqD (K := K) rfl hu64) (pv 0) (pv 1) (nomark _))
          (pss_one (ps_ret (pe_tup (pa_cons (pe_gint (T.int 121) rfl) (pa_cons pe_int pa_nil))))) pss_nil)
        (pss_cons (ps_if (pt_val (pe_callO (ok_is_moved T) tb (T.glo 18) hr rfl (pa_cons (pv 0) (pa_cons (pv 1) pa_nil))))
          (pss_one (ps_ret (pe_tup (pa_cons (pe_gint (T.int 122) rfl) (pa_cons (pe_callO (ok_squared_distance T) tb (T.glo 19) hr rfl (pa_cons (pe_ix (kIxT (K := K) rfl) (pv 0) pe_int (fun _ _ => rfl)) (pa_cons (pe_ix (kIxT (K := K) rfl) (pv 1) pe_int (fun _ _ => rfl)) pa_nil))) pa_nil))))) pss_nil)
        (pss_one (ps_ret (pe_tup (pa_cons (pe_gint (T.int 123) rfl) (pa_cons (pe_callB (call_max2 rfl) (by rfl) (T.free 89) (by decide +kernel) (pa_cons (pe_callO (ok_greatest_distance T) tb (T.glo 20) hr rfl (pa_cons (pv 0) (pa_cons (pv 1) pa_nil))) (pa_cons (pe_callO (ok_greatest_distance T) tb (T.glo 20) hr rfl (pa_cons (pv 1) (pa_cons (pv 0) pa_nil))) pa_nil))) pa_nil))))))), ?_⟩
    refine ⟨_, rfl, _, rfl, .tuple (la.map dV), .tuple (lb.map dV), .tup ta da, .tup tb' db, enc_verts.sh _, enc_verts.sh _, _, rfl, ?_⟩
    rw [show PyData.eqv (.tuple (la.map dV)) (.tuple (lb.map dV)) = decide (la = lb) from enc_verts.eqd _ _]
    by_cases e1 : la = lb
    · refine itT (decide_eq_true e1) ?_
      rw [if_pos e1] at k
      exact ⟨two, fun p np => k _ p (same_upd np) np upd_same⟩
    · refine itF (decide_eq_false e1) ?_
      rw [if_neg e1] at k
      refine ⟨_, rfl, _, rfl, a, b, la, lb, rfl, ha, hb, va, vb, fun H1 s1 => ⟨_, rfl, ?_⟩⟩
      cases e2 : shiftedV la lb with
      | true =>
        rw [if_pos e2] at k
        refine itT rfl ?_
        obtain ⟨x0, f0, d0⟩ := DpAll.at da (i := 0) (d := dV (la.headD (0, 0))) (by rw [List.getElem?_map, head_at va.ne]; rfl)
        obtain ⟨y0, g0, c0⟩ := DpAll.at db (i := 0) (d := dV (lb.headD (0, 0))) (by rw [List.getElem?_map, head_at vb.ne]; rfl)
        refine ⟨_, rfl, a, _, _, _, rfl, rfl, ta.same s1, atI_nat (j := 0) f0, _, rfl, b, _, _, _, rfl, rfl, tb'.same s1, atI_nat (j := 0) g0, x0, y0, la.headD (0, 0), lb.headD (0, 0), rfl, DpT.tup (Tup.of s1) _ _ rfl d0, DpT.tup (Tup.of s1) _ _ rfl c0, va.all _ (List.mem_of_getElem? (head_at va.ne)), vb.all _ (List.mem_of_getElem? (head_at vb.ne)), two, fun p np => ?_⟩
        exact k _ p (s1.trans (same_upd np)) (s1.free np) upd_same
      | false =>
        rw [if_neg (by rw [e2]; simp), spread_eq] at k
        refine itF rfl ?_
        refine ⟨_, rfl, _, rfl, a, b, la, lb, rfl, ha.same s1, hb.same s1, va, vb, fun H2 s2 => ?_⟩
        have s12 := s1.trans s2
        refine ⟨_, rfl, _, rfl, b, a, lb, la, rfl, hb.same s12, ha.same s12, vb, va, fun H3 s3 => ?_⟩
        refine ⟨_, _, rfl, two, fun p np => ?_⟩
        have := k _ p (s12.trans (s3.trans (same_upd (o := .tup [vN 2, vN (max (gDist la lb) (gDist lb la))]) np))) ((s12.trans s3).free np) upd_same
        rw [max_if]
        exact this
theorem paired_at {α β : Type} {R : α → β → Prop} : ∀ {l : List α} {m : List β}, Paired R l m → ∀ {i : Nat} {a : α}, l[i]? = some a → ∃ b, m[i]? = some b ∧ R a b
  | _, _, .nil, i, a, e => by simp at e
  | _ :: _, b :: _, .cons h q, 0, a, e => by
    have e := Option.some.inj e
    exact ⟨b, rfl, by rw [← e]; exact h⟩
  | _ :: _, _ :: _, .cons _ q, i + 1, a, e => paired_at q (i := i) (by simpa using e)
theorem paired_keys {R : Key × V → Feature → Prop} (hR : ∀ p f, R p f → p.1 = kI f.id) : ∀ {l : List (Key × V)} {m : List Feature}, Paired R l m → l.map (·.1) = m.map fun f => kI f.id
  | _, _, .nil => rfl
  | _ :: _, _ :: _, .cons h q => by rw [List.map_cons, List.map_cons, paired_keys hR q, hR _ _ h]
/-- the features of a dict, in its order -/
theorem ver_list {H : Hp} {kvs : List (Key × V)} {v : Version} (D : VerD K H kvs v) (s : Srt v) : ∃ fs : List Feature, fs.Perm v ∧ kvs.length = fs.length ∧ ∀ (i : Nat) (k : Key) (x : V), kvs[i]? = some (k, x) → ∃ f, fs[i]? = some f ∧ k = kI f.id ∧ Fea K H x f := by
  obtain ⟨fs, f1, f2⟩ := D.paired s
  have hk := paired_keys (fun _ _ h => h.1) f1
  have nd : fs.Nodup := by
    have := D.nd
    rw [hk] at this
    exact List.nodup_iff_pairwise_ne.mpr (List.Pairwise.of_map _ (fun a b h z => h (by rw [z])) (List.nodup_iff_pairwise_ne.mp this))
  have nv : v.Nodup := List.nodup_iff_pairwise_ne.mpr (List.Pairwise.imp (R := fun (a b : Feature) => a.id < b.id) (fun {a b} h z => by rw [z] at h; exact Nat.lt_irrefl _ h) s)
  refine ⟨fs, (List.perm_ext_iff_of_nodup nd nv).mpr f2, Paired.length f1, fun i k x e => ?_⟩
  obtain ⟨f, e2, h⟩ := paired_at f1 e
  exact ⟨f, e2, h.1, h.2⟩
def spPoss (K : PySem.W.Frag) : Sp := fun vs H Q _ => ∃ (a b : Addr) (v u : Version) (ac tol : Nat), vs = [.ref a, .ref b, vN tol] ∧ VerAt K H a v ∧ VerAt K H b u ∧ VOk ac v ∧ VOk ac u ∧ tol < 4294967296 ∧
  ∀ (H' : Hp) (p : Addr) (ys : List V), Same H H' → H p = none → H' p = some (.lst ys) → RowsN H' ys ((sortM (possM v u tol)).map keyRow) → Q (.ref p) H'
theorem fok_vbs {k : Nat} {f : Feature} (h : FOk k f) : VBs f.vertices := ⟨h.v1, h.v2, h.vr⟩
def upTo (tol : Nat) (fs gs : List Feature) (i : Nat) : List (List Int) := (fs.take i).flatMap fun f => fRows tol f gs
theorem upTo_succ {tol : Nat} {fs gs : List Feature} {i : Nat} {f : Feature} (e : fs[i]? = some f) : upTo tol fs gs (i + 1) = upTo tol fs gs i ++ fRows tol f gs := by
  unfold upTo
  rw [take_snoc e, List.flatMap_append]
  simp
theorem fRows_succ {tol : Nat} {f g : Feature} {gs : List Feature} {j : Nat} (e : gs[j]? = some g) : fRows tol f (gs.take (j + 1)) = fRows tol f (gs.take j) ++ if (corrV f.vertices g.vertices).2 ≤ tol * tol then [mRow f g] else [] := by
  unfold fRows
  rw [take_snoc e, List.filter_append, List.map_append, List.filter_cons]
  congr 1
  split <;> rename_i h
  · rw [if_pos (of_decide_eq_true h)]; rfl
  · rw [if_neg (fun z => h (decide_eq_true z))]; rfl
theorem fRows_len (tol : Nat) (f : Feature) (gs : List Feature) : (fRows tol f gs).length ≤ gs.length := by
  unfold fRows
  rw [List.length_map]
  exact List.length_filter_le _ _
theorem upTo_len (tol : Nat) (fs gs : List Feature) (i : Nat) : (upTo tol fs gs i).length ≤ fs.length * gs.length := by
  unfold upTo
  have h : ∀ l : List Feature, (l.flatMap fun f => fRows tol f gs).length ≤ l.length * gs.length := by
    intro l
    induction l with
    | nil => simp
    | cons f l ih =>
      have := fRows_len tol f gs
      rw [List.flatMap_cons, List.length_append, List.length_cons, Nat.succ_mul]
      omega
  refine Nat.le_trans (h _) (Nat.mul_le_mul_right _ ?_)
  rw [List.length_take]
  exact Nat.min_le_right _ _
theorem sc_possible_pairs : FnScope ["first", "second", "tolerance", "greatest", "possible", "first_id", "first_feature", "second_id", "second_feature", "way", "distance"] ["first", "second", "tolerance"] (defScope s_possible_pairs) := ⟨rfl, rfl, rfl, by decide +kernel, rfl, by decide +kernel, by decide +kernel⟩
theorem ok_possible_pairs (T : Tx K mg) : Ok P w K mg ("possible_pairs", none) ["first", "second", "tolerance"] 4 (spPoss K) := by
  refine T.ok (i := 16) (d := d_possible_pairs) rfl rfl sc_possible_pairs (fun vs H Q E h => ?_) (fun _ _ _ _ _ _ us hl => match us, hl with | [_, _, _], _ => rfl) (fun base tb cdv A outer s H vs Q E hr h => ?_)
  · obtain ⟨a, b, v, u, ac, tol, rfl, _⟩ := h
    rfl
  · obtain ⟨a, b, v, u, ac, tol, rfl, ⟨ka, qa, Da⟩, ⟨kb, qb, Db⟩, ov, ou, ht, k⟩ := h
    obtain ⟨fs, pf, lf, af⟩ := ver_list Da ov.srt
    obtain ⟨gs, pg, lg, ag⟩ := ver_list Db ou.srt
    have hfs : ∀ f ∈ fs, FOk ac f := fun f hf => ov.all f (pf.mem_iff.mp hf)
    have hgs : ∀ f ∈ gs, FOk ac f := fun f hf => ou.all f (pg.mem_iff.mp hf)
    have l256 : fs.length * gs.length ≤ 256 := by
      rw [pf.length_eq, pg.length_eq]
      exact Nat.mul_le_mul ov.len ou.len
    have g16 : gs.length ≤ 16 := by rw [pg.length_eq]; exact ou.len
    have hu := hu_of hr
    refine ⟨_, (pss_cons (ps_set (i := 3) sc_possible_pairs.nd rfl (by first | exact Or.inl rfl | exact Or.inr rfl) (pe_op op_mul (pv 2) (pv 2)))
        (pss_cons (ps_set (i := 4) sc_possible_pairs.nd rfl (by first | exact Or.inl rfl | exact Or.inr rfl) (pe_lst pa_nil))
        (pss_cons (ps_lock (ps_for PassesOwn.never rfl (pi_items (pv 0)) (pg_tup rfl (pgs_cons (pg_name (i := 5) sc_possible_pairs.nd rfl (by first | exact Or.inl rfl | exact Or.inr rfl)) (pgs_cons (pg_name (i := 6) sc_possible_pairs.nd rfl (by first | exact Or.inl rfl | exact Or.inr rfl)) pgs_nil)))
          (pss_one (ps_or (ps_for PassesOwn.never rfl (pi_items (pv 1)) (pg_tup rfl (pgs_cons (pg_name (i := 7) sc_possible_pairs.nd rfl (by first | exact Or.inl rfl | exact Or.inr rfl)) (pgs_cons (pg_name (i := 8) sc_possible_pairs.nd rfl (by first | exact Or.inl rfl | exact Or.inr rfl)) pgs_nil)))
          (pss_cons (ps_asg (pe_callO (ok_correspondence T) tb (T.glo 17) hr rfl (pa_cons (pe_ix (kIxT (K := K) rfl) (pv 6) pe_int (fun _ _ => rfl)) (pa_cons (pe_ix (kIxT (K := K) rfl) (pv 8) pe_int (fun _ _ => rfl)) pa_nil))) (pg_tup rfl (pgs_cons (pg_name (i := 9) sc_possible_pairs.nd rfl (by first | exact Or.inl rfl | exact Or.inr rfl)) (pgs_cons (pg_name (i := 10) sc_possible_pairs.nd rfl (by first | exact Or.inl rfl | exact Or.inr rfl)) pgs_nil))))
        (pss_one (ps_if (pt_cmpR op_le (pv 10) (pv 3) (nomark _))
          (pss_one (ps_expr (pe_bm PySem.F.plainAttrs_list PySem.F.slot_list_append PySem.F.type_list_append mt_append (pv 4) (pa_cons (pe_tup (pa_cons (pv 9) (pa_cons (pv 10) (pa_cons (pv 5) (pa_cons (pv 7) pa_nil))))) pa_nil)))) pss_nil))))
          (ps_lock (ps_for PassesOwn.never rfl (pi_items (pv 1)) (pg_tup rfl (pgs_cons (pg_name (i := 7) sc_possible_pairs.nd rfl (by first | exact Or.inl rfl | exact Or.inr rfl)) (pgs_cons (pg_name (i := 8) sc_possible_pairs.nd rfl (by first | exact Or.inl rfl | exact Or.inr rfl)) pgs_nil)))
          (pss_cons (ps_asg (pe_callO (ok_correspondence T) tb (T.glo 17) hr rfl (pa_cons (pe_ix (kIxT (K := K) rfl) (pv 6) pe_int (fun _ _ => rfl)) (pa_cons (pe_ix (kIxT (K := K) rfl) (pv 8) pe_int (fun _ _ => rfl)) pa_nil))) (pg_tup rfl (pgs_cons (pg_name (i := 9) sc_possible_pairs.nd rfl (by first | exact Or.inl rfl | exact Or.inr rfl)) (pgs_cons (pg_name (i := 10) sc_possible_pairs.nd rfl (by first | exact Or.inl rfl | exact Or.inr rfl)) pgs_nil))))
        (pss_one (ps_if (pt_cmpR op_le (pv 10) (pv 3) (nomark _))
          (pss_one (ps_expr (pe_bm PySem.F.plainAttrs_list PySem.F.slot_list_append PySem.F.type_list_append mt_append (pv 4) (pa_cons (pe_tup (pa_cons (pv 9) (pa_cons (pv 10) (pa_cons (pv 5) (pa_cons (pv 7) pa_nil))))) pa_nil)))) pss_nil)))))))))
        (pss_one (ps_ret (pe_callB (kSrt4 (K := K) rfl) (by rfl) (T.free 93) (by decide +kernel) (pa_cons (pv 4) pa_nil))))))), ?_⟩
    refine ⟨_, rfl, _, rfl, _, _, rfl, rfl, .inl ⟨by omega, by omega⟩, ?_⟩
    refine ⟨by show 0 ≤ sizeLine; decide, fun L nL => ?_⟩
    have s1 := same_upd (o := .lst []) nL
    have naL : a ≠ L := ne_of_none qa nL
    have nbL : b ≠ L := ne_of_none qb nL
    refine ⟨a, .dK ka, s1 _ _ qa, trivial, fun oa => ?_⟩
    -- the first dict is locked
    generalize eHl : upd (upd H L (.lst [])) a (.frz oa (.dK ka)) = Hl
    have hla : Hl a = some (.frz oa (.dK ka)) := by rw [← eHl, upd_same]
    have hlL : Hl L = some (.lst []) := by rw [← eHl, upd_ne naL.symm, upd_same]
    have tl : Tup H Hl := eHl ▸ (Tup.of s1).trans (Tup.upd (s1 _ _ qa) rfl)
    have stl : ∀ c o, H c = some o → c ≠ a → Hl c = some o := fun c o h n => by rw [← eHl, upd_ne n]; exact s1 _ _ h
    refine ⟨_, rfl, a, oa, ka, rfl, hla, ?_⟩
    refine for_any (J := Iti a oa ka) (H := Hl) (n := ka.length) (fun i σ Hx => ∃ (v5 v6 v7 v8 v9 v10 : Option V) (acc : List V), σ = [some (.ref a), some (.ref b), some (vN tol), some (.int ((tol : Int) * (tol : Int))), some (.ref L), v5, v6, v7, v8, v9, v10] ∧ (∀ c o, Hl c = some o → c ≠ L → Hx c = some o) ∧ Hx L = some (.lst acc) ∧ RowsN Hx acc (upTo tol fs gs i))
      ⟨none, none, none, none, none, none, [], rfl, fun c o h _ => h, hlL, .nil⟩ ?_ ?_ ?_ ?_
    · rintro i σ Hx hi ⟨_, _, _, _, _, _, _, _, st, _⟩
      exact ⟨st _ _ hla naL, hi⟩
    · rintro σ Hx ⟨_, _, _, _, _, _, _, _, st, _⟩
      exact ⟨st _ _ hla naL, Nat.le_refl _⟩
    · rintro i x σ Hx Hx' hi ⟨v5, v6, v7, v8, v9, v10, acc, rfl, st, hL, hR⟩ ⟨T, kk, y, e1, rfl, nT, rfl⟩
      obtain ⟨f, ef, rfl, hf⟩ := af i kk y e1
      have sT := same_upd (o := .tup [kV (kI f.id), y]) nT
      have nTL : T ≠ L := fun z => by rw [z, hL] at nT; cases nT
      refine ⟨T, _, rfl, SqT.of upd_same, rfl, _, _, rfl, _, _, rfl, rfl, ?_⟩
      have tHx : Tup Hl Hx := fun c o h t => st c o h fun z => by rw [z, hlL] at h; cases h; cases t
      have hf2 : Fea K (upd Hx T (.tup [kV (kI f.id), y])) y f := (hf.tup tl).tup (tHx.trans (Tup.of sT))
      have hL2 := sT _ _ hL
      have hR2 := RowsN.same (fun b o h _ => sT b o h) hR
      have st2 : ∀ c o, Hl c = some o → c ≠ L → (upd Hx T (.tup [kV (kI f.id), y])) c = some o := fun c o h n => sT _ _ (st c o h n)
      generalize upd Hx T (.tup [kV (kI f.id), y]) = Hm at hf2 hL2 hR2 st2 ⊢
      clear hL hR st sT nT nTL e1 hi tHx
      have hff : FOk ac f := hfs f (List.mem_of_getElem? ef)
      have lup := upTo_len tol fs gs i
      by_cases hab : a = b
      case' pos =>
        have kab : ka = kb := by
          have h := qb
          rw [← hab, qa] at h
          cases h; rfl
        obtain ⟨ob, eob⟩ : ∃ ob, ob = oa := ⟨_, rfl⟩
        have hmb : Hm b = some (.frz ob (.dK kb)) := by rw [← hab, eob, ← kab]; exact st2 _ _ hla naL
        refine Or.inl ⟨_, rfl, b, ob, kb, rfl, hmb, ?_⟩
        generalize eHi : Hm = Hin at hmb hf2 hL2 hR2 st2 ⊢
        have hib := hmb
        have stO : ∀ c o, Hl c = some o → c ≠ L → c ≠ b → Hin c = some o := fun c o h n _ => st2 c o h n
        have fin : ∀ (Hy : Hp) (acc' : List V), (∀ c o, Hin c = some o → c ≠ L → Hy c = some o) → Hy L = some (.lst acc') → RowsN Hy acc' (upTo tol fs gs (i + 1)) → (∀ c o, Hl c = some o → c ≠ L → Hy c = some o) ∧ Hy L = some (.lst acc') ∧ RowsN Hy acc' (upTo tol fs gs (i + 1)) := fun Hy acc' h1 h2 h3 => ⟨fun c o h n => h1 c o (st2 c o h n) n, h2, h3⟩
        have hiL := hL2
        have hiR := hR2
        have hif := hf2
      case' neg =>
        have hlb := stl _ _ qb (fun z => hab z.symm)
        have hmb : Hm b = some (.dK kb) := st2 _ _ hlb nbL
        refine Or.inr ⟨b, .dK kb, hmb, trivial, fun ob => ?_⟩
        refine ⟨_, rfl, b, ob, kb, rfl, upd_same, ?_⟩
        have tu : Tup Hm (upd Hm b (.frz ob (.dK kb))) := Tup.upd hmb rfl
        have hiL : (upd Hm b (.frz ob (.dK kb))) L = some (.lst acc) := by rw [upd_ne nbL.symm]; exact hL2
        have hiR := RowsN.same tu hR2
        have hif := hf2.tup tu
        have hib : (upd Hm b (.frz ob (.dK kb))) b = some (.frz ob (.dK kb)) := upd_same
        have stO : ∀ c o, Hl c = some o → c ≠ L → c ≠ b → (upd Hm b (.frz ob (.dK kb))) c = some o := fun c o h n nb => by rw [upd_ne nb]; exact st2 c o h n
        generalize upd Hm b (.frz ob (.dK kb)) = Hin at hiL hiR hif hib stO ⊢
        have fin : ∀ (Hy : Hp) (acc' : List V), (∀ c o, Hin c = some o → c ≠ L → Hy c = some o) → Hy L = some (.lst acc') → RowsN Hy acc' (upTo tol fs gs (i + 1)) → (∀ c o, Hl c = some o → c ≠ L → (upd Hy b (.dK kb)) c = some o) ∧ (upd Hy b (.dK kb)) L = some (.lst acc') ∧ RowsN (upd Hy b (.dK kb)) acc' (upTo tol fs gs (i + 1)) := fun Hy acc' h1 h2 h3 => by
          have hyb := h1 _ _ hib nbL
          refine ⟨fun c o h n => ?_, by rw [upd_ne nbL.symm]; exact h2, RowsN.same (Tup.upd hyb rfl) h3⟩
          by_cases q : c = b
          · rw [q, upd_same, ← hlb, ← q]; exact h
          · rw [upd_ne q]; exact h1 c o (stO c o h n q) n
      all_goals
        have tIn : Tup H Hin := fun c o h t => stO c o (tl c o h t) (ne_of_none h nL) (fun z => by rw [z, qb] at h; cases h; cases t)
        refine for_any (n := kb.length) (fun j σ Hy => ∃ (v7 v8 v9 v10 : Option V) (acc : List V), σ = [some (.ref a), some (.ref b), some (vN tol), some (.int ((tol : Int) * (tol : Int))), some (.ref L), some (vN f.id), some y, v7, v8, v9, v10] ∧ (∀ c o, Hin c = some o → c ≠ L → Hy c = some o) ∧ Hy L = some (.lst acc) ∧ RowsN Hy acc (upTo tol fs gs i ++ fRows tol f (gs.take j)))
          ⟨v7, v8, v9, v10, acc, rfl, fun c o h _ => h, hiL, by rw [show fRows tol f (gs.take 0) = [] from rfl, List.append_nil]; exact hiR⟩ ?_ ?_ ?_ ?_
        · rintro j σ Hy hj ⟨_, _, _, _, _, _, st, _⟩
          exact ⟨st _ _ hib nbL, hj⟩
        · rintro σ Hy ⟨_, _, _, _, _, _, st, _⟩
          exact ⟨st _ _ hib nbL, Nat.le_refl _⟩
        · rintro j x σ Hy Hy' hj ⟨v7, v8, v9, v10, acc, rfl, st, hL, hR⟩ ⟨T2, kk, z, e1, rfl, nT2, rfl⟩
          obtain ⟨g, eg, rfl, hg⟩ := ag j kk z e1
          have hgg : FOk ac g := hgs g (List.mem_of_getElem? eg)
          have tHy : Tup Hin Hy := fun c o h t => st c o h fun z => by rw [z, hiL] at h; cases h; cases t
          have sT2 := same_upd (o := .tup [kV (kI g.id), z]) nT2
          have tA := tHy.trans (Tup.of sT2)
          obtain ⟨fa, p, q, us, ey, t1, t2, t3, t4⟩ := Fea.parts (hif.tup tA)
          obtain ⟨ga, p', q', us', ez, t1', t2', t3', t4'⟩ := Fea.parts (hg.tup (tIn.trans tA))
          have lac : acc.length ≤ 300 := by
            rw [hR.len, List.length_append]
            have := fRows_len tol f (gs.take j)
            rw [List.length_take] at this
            omega
          refine ⟨T2, _, rfl, SqT.of upd_same, rfl, _, _, rfl, _, _, rfl, rfl, ?_⟩
          refine ⟨_, rfl, fa, _, _, _, ey, rfl, t1, atI_nat (j := 1) rfl, _, rfl, ga, _, _, _, ez, rfl, t1', atI_nat (j := 1) rfl, q, q', f.vertices, g.vertices, rfl, ⟨us, t3, t4⟩, ⟨us', t3', t4'⟩, fok_vbs hff, fok_vbs hgg, fun H5 p5 s5 n5 h5 => ?_⟩
          have hL5 := s5 _ _ (sT2 _ _ hL)
          have st5 : ∀ c o, Hin c = some o → c ≠ L → H5 c = some o := fun c o h n => s5 _ _ (sT2 _ _ (st c o h n))
          have hR5 := RowsN.same (fun b o h _ => s5 _ _ (sT2 b o h)) hR
          refine ⟨p5, _, rfl, SqT.of h5, rfl, _, _, rfl, _, _, rfl, rfl, ?_⟩
          refine ⟨_, rfl, _, rfl, _, _, rfl, rfl, _, rfl, ?_⟩
          have efr := fRows_succ (tol := tol) (f := f) eg
          have ele : decide ((((corrV f.vertices g.vertices).2 : Nat) : Int) ≤ (tol : Int) * (tol : Int)) = decide ((corrV f.vertices g.vertices).2 ≤ tol * tol) := by
            rw [← Int.natCast_mul]
            refine decide_eq_decide.mpr ⟨fun h => Int.ofNat_le.mp h, fun h => Int.ofNat_le.mpr h⟩
          by_cases hd : (corrV f.vertices g.vertices).2 ≤ tol * tol
          · refine itT (by rw [ele]; exact decide_eq_true hd) ?_
            rw [if_pos hd] at efr
            refine ⟨_, rfl, .inl ⟨rfl, _, SqL.of hL5⟩, _, rfl, _, rfl, _, rfl, _, rfl, by show 4 ≤ sizeLine; decide, fun w' nw => ?_⟩
            have sw := same_upd (o := .tup [vN (corrV f.vertices g.vertices).1, vN (corrV f.vertices g.vertices).2, vN f.id, vN g.id]) nw
            have hLw := sw _ _ hL5
            have nwL : w' ≠ L := fun z => by rw [z, hL5] at nw; cases nw
            refine ⟨L, acc, _, rfl, rfl, hLw, small (m := 400) (by omega), ?_⟩
            refine ⟨_, _, _, _, acc ++ [.ref w'], rfl, fun c o h n => ?_, upd_same, ?_⟩
            · rw [upd_ne n]; exact sw _ _ (st5 c o h n)
            · rw [efr, ← List.append_assoc]
              exact RowsN.snoc (RowsN.same ((Tup.of sw).trans (tup_upd_lst hLw)) hR5) (by rw [upd_ne nwL, upd_same]; rfl)
          · refine itF (by rw [ele]; exact decide_eq_false hd) ?_
            rw [if_neg hd, List.append_nil] at efr
            exact ⟨_, _, _, _, acc, rfl, st5, hL5, by rw [efr]; exact hR5⟩
        · rintro σ Hy ⟨v7, v8, v9, v10, acc, rfl, st, hL, hR⟩
          rw [lg, List.take_length, ← upTo_succ ef] at hR
          first
            | exact ⟨_, _, _, _, _, _, _, rfl, fin Hy acc st hL hR⟩
            | exact ⟨st _ _ hib nbL, _, _, _, _, _, _, _, rfl, fin Hy acc st hL hR⟩
    · rintro σ Hx ⟨v5, v6, v7, v8, v9, v10, acc, rfl, st, hL, hR⟩
      have hxa := st _ _ hla naL
      refine ⟨hxa, ?_⟩
      rw [lf, show upTo tol fs gs fs.length = fs.flatMap fun f => fRows tol f gs by unfold upTo; rw [List.take_length]] at hR
      have hLa : (upd Hx a (.dK ka)) L = some (.lst acc) := by rw [upd_ne naL.symm]; exact hL
      have sH : Same H (upd Hx a (.dK ka)) := fun c o h => by
        by_cases q : c = a
        · rw [q, upd_same, ← qa, ← q]; exact h
        · rw [upd_ne q]; exact st c o (stl c o h q) (ne_of_none h nL)
      have hRa := RowsN.same (Tup.upd (u := .dK ka) hxa rfl) hR
      refine ⟨_, rfl, L, acc, _, 4, rfl, SqL.of hLa, hRa, by decide, fun r hr => ?_, fun ys rs' p hR' hp hs np => ?_⟩
      · obtain ⟨f, _, hr⟩ := List.mem_flatMap.mp hr
        unfold fRows at hr
        obtain ⟨g, _, rfl⟩ := List.mem_map.mp hr
        rfl
      · rw [sorted_is pf pg hs hp] at hR'
        exact k _ p ys (sH.trans (same_upd np)) (sH.free np) upd_same (RowsN.same (fun b o h _ => same_upd np b o h) hR')
end Pv
end
section
set_option Elab.async false
set_option linter.all false
set_option maxRecDepth 100000
set_option maxHeartbeats 2000000
namespace Pv
open PySem PySem.Spec PyProof.Rows L2 Kvg9
open L2 (Dp DpAll)
variable {P : Program} {w : World} {K : PySem.W.Frag} {mg : Str → Option Value}
def outRow (m : Match) : List Int := [m.first, m.second, m.kind, m.distance]
def spTaken (K : PySem.W.Frag) : Sp := fun vs H Q _ => ∃ (a b : Addr) (v u : Version) (ac tol : Nat), vs = [.ref a, .ref b, vN tol] ∧ VerAt K H a v ∧ VerAt K H b u ∧ VOk ac v ∧ VOk ac u ∧ tol < 4294967296 ∧
  ∀ (H' : Hp) (p : Addr) (ys : List V), Same H H' → H p = none → H' p = some (.lst ys) → RowsN H' ys ((matchVersions v u tol).map outRow) → Q (.ref p) H'
theorem takenM_snoc (l : List Match) (m : Match) : takenM (l ++ [m]) = tStep (takenM l) m := by
  unfold takenM
  rw [List.foldl_append]; rfl
theorem takenM_len : ∀ (l acc : List Match), (l.foldl tStep acc).length ≤ acc.length + l.length
  | [], acc => Nat.le_refl _
  | m :: l, acc => by
    have h := takenM_len l (tStep acc m)
    have h2 : (tStep acc m).length ≤ acc.length + 1 := by
      unfold tStep
      split
      · omega
      · simp
    rw [List.foldl_cons, List.length_cons]
    omega
theorem sortM_len (l : List Match) : (sortM l).length = l.length := by
  have := (sortM_fold l [] List.Pairwise.nil).2.length_eq
  rwa [List.append_nil] at this
theorem sc_taken_pairs : FnScope ["first", "second", "tolerance", "taken", "first_taken", "second_taken", "way", "distance", "first_id", "second_id"] ["first", "second", "tolerance"] (defScope s_taken_pairs) := ⟨rfl, rfl, rfl, by decide +kernel, rfl, by decide +kernel, by decide +kernel⟩
theorem ok_taken_pairs (T : Tx K mg) : Ok P w K mg ("taken_pairs", none) ["first", "second", "tolerance"] 5 (spTaken K) := by
  refine T.ok (i := 15) (d := d_taken_pairs) rfl rfl sc_taken_pairs (fun vs H Q E h => ?_) (fun _ _ _ _ _ _ us hl => match us, hl with | [_, _, _], _ => rfl) (fun base tb cdv A outer s H vs Q E hr h => ?_)
  · obtain ⟨a, b, v, u, ac, tol, rfl, _⟩ := h
    rfl
  · obtain ⟨a, b, v, u, ac, tol, rfl, ha, hb, ov, ou, ht, k⟩ := h
    have pl := poss_len (tol := tol) ov.len ou.len
    have sl := sortM_len (possM v u tol)
    have hu := hu_of hr
    refine ⟨_, (pss_cons (ps_set (i := 3) sc_taken_pairs.nd rfl (by first | exact Or.inl rfl | exact Or.inr rfl) (pe_lst pa_nil))
        (pss_cons (ps_set (i := 4) sc_taken_pairs.nd rfl (by first | exact Or.inl rfl | exact Or.inr rfl) pe_dnewK)
        (pss_cons (ps_set (i := 5) sc_taken_pairs.nd rfl (by first | exact Or.inl rfl | exact Or.inr rfl) pe_dnewK)
        (pss_cons (ps_for PassesOwn.never rfl (kPiL (K := K) rfl (pe_callO (ok_possible_pairs T) tb (T.glo 16) hr rfl (pa_cons (pv 0) (pa_cons (pv 1) (pa_cons (pv 2) pa_nil))))) (pg_tup rfl (pgs_cons (pg_name (i := 6) sc_taken_pairs.nd rfl (by first | exact Or.inl rfl | exact Or.inr rfl)) (pgs_cons (pg_name (i := 7) sc_taken_pairs.nd rfl (by first | exact Or.inl rfl | exact Or.inr rfl)) (pgs_cons (pg_name (i := 8) sc_taken_pairs.nd rfl (by first | exact Or.inl rfl | exact Or.inr rfl)) (pgs_cons (pg_name (i := 9) sc_taken_pairs.nd rfl (by first | exact Or.inl rfl | exact Or.inr rfl)) pgs_nil)))))
          (pss_one (ps_if (PW.pt (pw_and (pt_cmp (pc_dnotin hu (pv 8) (pv 4))) (pw_and1 (pt_cmp (pc_dnotin hu (pv 9) (pv 5))))))
          (pss_cons (ps_dput hu (pv 4) (pv 8) pe_bl rfl)
        (pss_cons (ps_dput hu (pv 5) (pv 9) pe_bl rfl)
        (pss_one (ps_expr (pe_bm PySem.F.plainAttrs_list PySem.F.slot_list_append PySem.F.type_list_append mt_append (pv 3) (pa_cons (pe_tup (pa_cons (pv 8) (pa_cons (pv 9) (pa_cons (pv 6) (pa_cons (pv 7) pa_nil))))) pa_nil)))))) pss_nil)))
        (pss_one (ps_ret (pv 3))))))), ?_⟩
    refine ⟨by show 0 ≤ sizeLine; decide, fun L nL => fun d1 nd1 => fun d2 nd2 => ?_⟩
    have s1 := same_upd (o := .lst []) nL
    have s2 := same_upd (o := .dK []) nd1
    have s3 := same_upd (o := .dK []) nd2
    have s123 := s1.trans (s2.trans s3)
    have nd10 : H d1 = none := s1.free nd1
    have nd20 : H d2 = none := (s1.trans s2).free nd2
    have nL1 : L ≠ d1 := ne_of_none upd_same nd1
    have nL2 : L ≠ d2 := ne_of_none (s2 _ _ upd_same) nd2
    have n12 : d1 ≠ d2 := ne_of_none upd_same nd2
    refine ⟨_, rfl, _, rfl, _, rfl, a, b, v, u, ac, tol, rfl, ha.same s123, hb.same s123, ov, ou, ht, fun H4 p ys s4 np hp hR => ⟨p, rfl, ⟨_, SqL.of hp⟩, ?_⟩⟩
    have sA := s123.trans s4
    have hL4 := s4 _ _ (s3 _ _ (s2 _ _ upd_same))
    have h14 := s4 _ _ (s3 _ _ upd_same)
    have h24 := s4 _ _ upd_same
    generalize hP : sortM (possM v u tol) = Ms at hR sl
    have lys : ys.length = Ms.length := by rw [hR.len, List.length_map]
    refine for_list (K := K) (a := p) (xs := ys) (fun i σ H5 => ∃ (v6 v7 v8 v9 : Option V) (acc : List V) (k1 k2 : List (Key × V)), σ = [some (.ref a), some (.ref b), some (vN tol), some (.ref L), some (.ref d1), some (.ref d2), v6, v7, v8, v9] ∧ Same H H5 ∧ H5 p = some (.lst ys) ∧ RowsN H5 ys (Ms.map keyRow) ∧ H5 L = some (.lst acc) ∧ RowsN H5 acc ((takenM (Ms.take i)).map outRow) ∧
        H5 d1 = some (.dK k1) ∧ k1.map (·.1) = ((takenM (Ms.take i)).map Match.first).map kI ∧ H5 d2 = some (.dK k2) ∧ k2.map (·.1) = ((takenM (Ms.take i)).map Match.second).map kI)
      ⟨none, none, none, none, [], [], [], rfl, sA, hp, hR, hL4, .nil, h14, rfl, h24, rfl⟩ (fun i σ H1 _ ⟨_, _, _, _, _, _, _, _, _, q, _⟩ => SqL.of q) ?_ ?_
    · have npL : p ≠ L := fun z => by rw [z] at np; rw [s3 _ _ (s2 _ _ upd_same)] at np; cases np
      have np1 : p ≠ d1 := fun z => by rw [z] at np; rw [s3 _ _ upd_same] at np; cases np
      have np2 : p ≠ d2 := fun z => by rw [z, upd_same] at np; cases np
      rintro i x σ H5 hx ⟨v6, v7, v8, v9, acc, k1, k2, rfl, s, hp5, hR5, hL, hRL, hd1, hk1, hd2, hk2⟩
      obtain ⟨r, t, er, rfl, htt⟩ := RowsN.at hR5 hx
      rw [List.getElem?_map] at er
      cases em : Ms[i]? with
      | none => rw [em] at er; cases er
      | some m =>
        rw [em] at er
        obtain rfl : keyRow m = r := Option.some.inj er
        have hi := (List.getElem?_eq_some_iff.mp em).1
        have tl : (takenM (Ms.take i)).length ≤ 256 := by
          have := takenM_len (Ms.take i) []
          rw [List.length_take] at this
          show (List.foldl tStep [] (Ms.take i)).length ≤ 256
          simp at this
          omega
        have snoc := takenM_snoc (Ms.take i) m
        rw [← take_snoc em] at snoc
        have any := tStep_any (takenM (Ms.take i)) m
        refine ⟨t, _, rfl, SqT.of htt, rfl, _, _, rfl, _, _, rfl, _, _, rfl, _, _, rfl, rfl, ?_⟩
        refine ⟨_, rfl, _, rfl, d1, _, rfl, DGet.k (k := kI m.first) hd1, _, rfl, ?_⟩
        rw [keys_some hk1]
        by_cases q1 : m.first ∈ (takenM (Ms.take i)).map Match.first
        · refine itF (by rw [decide_eq_true q1]; rfl) ?_
          rw [decide_eq_true q1, Bool.true_or] at any
          have e : tStep (takenM (Ms.take i)) m = takenM (Ms.take i) := by unfold tStep; rw [if_pos any]
          rw [e] at snoc
          exact ⟨_, _, _, _, acc, k1, k2, rfl, s, hp5, hR5, hL, by rw [snoc]; exact hRL, hd1, by rw [snoc]; exact hk1, hd2, by rw [snoc]; exact hk2⟩
        · refine itT (by rw [decide_eq_false q1]; rfl) ?_
          refine ⟨_, rfl, _, rfl, d2, _, rfl, DGet.k (k := kI m.second) hd2, _, rfl, ?_⟩
          rw [keys_some hk2]
          by_cases q2 : m.second ∈ (takenM (Ms.take i)).map Match.second
          · refine itF (by rw [decide_eq_true q2]; rfl) ?_
            rw [decide_eq_true q2, Bool.or_true] at any
            have e : tStep (takenM (Ms.take i)) m = takenM (Ms.take i) := by unfold tStep; rw [if_pos any]
            rw [e] at snoc
            exact ⟨_, _, _, _, acc, k1, k2, rfl, s, hp5, hR5, hL, by rw [snoc]; exact hRL, hd1, by rw [snoc]; exact hk1, hd2, by rw [snoc]; exact hk2⟩
          · refine itT (by rw [decide_eq_false q2]; rfl) ?_
            rw [decide_eq_false q1, decide_eq_false q2] at any
            have e : tStep (takenM (Ms.take i)) m = takenM (Ms.take i) ++ [m] := by
              unfold tStep
              rw [any]; rfl
            rw [e] at snoc
            have nn : ∀ {kv : List (Key × V)} {F : List Nat} {n : Nat}, kv.map (·.1) = F.map kI → n ∉ F → valV kv (kI n) = none := fun {kv F n} h q => by
              have := keys_some h n
              rw [decide_eq_false q] at this
              cases e : valV kv (kI n) with
              | none => rfl
              | some _ => rw [e] at this; cases this
            have lk1 : k1.length ≤ 256 := by rw [keys_len hk1, List.length_map]; exact tl
            have lk2 : k2.length ≤ 256 := by rw [keys_len hk2, List.length_map]; exact tl
            have lac : acc.length ≤ 256 := by rw [hRL.len, List.length_map]; exact tl
            refine ⟨_, rfl, _, rfl, d1, _, rfl, DPut.k (k := kI m.first) hd1 (small (m := 300) (by omega)), ?_⟩
            have hd2' : (upd H5 d1 (.dK (putK k1 (kI m.first) (.bl true)))) d2 = some (.dK k2) := by rw [upd_ne n12.symm]; exact hd2
            refine ⟨_, rfl, _, rfl, d2, _, rfl, DPut.k (k := kI m.second) hd2' (small (m := 300) (by omega)), ?_⟩
            have tA : Tup H5 (upd (upd H5 d1 (.dK (putK k1 (kI m.first) (.bl true)))) d2 (.dK (putK k2 (kI m.second) (.bl true)))) := (Tup.upd hd1 rfl).trans (Tup.upd hd2' rfl)
            have hL6 : (upd (upd H5 d1 (.dK (putK k1 (kI m.first) (.bl true)))) d2 (.dK (putK k2 (kI m.second) (.bl true)))) L = some (.lst acc) := by rw [upd_ne nL2, upd_ne nL1]; exact hL
            refine ⟨_, rfl, .inl ⟨rfl, _, SqL.of hL6⟩, _, rfl, _, rfl, _, rfl, _, rfl, by show 4 ≤ sizeLine; decide, fun w' nw => ?_⟩
            have sw := same_upd (o := .tup [vN m.first, vN m.second, vN m.kind, vN m.distance]) nw
            have hLw := sw _ _ hL6
            have nwL : w' ≠ L := fun z => by rw [z, hL6] at nw; cases nw
            refine ⟨L, acc, _, rfl, rfl, hLw, small (m := 400) (by omega), ?_⟩
            have tB := tA.trans ((Tup.of sw).trans (tup_upd_lst (ys := acc ++ [.ref w']) hLw))
            refine ⟨_, _, _, _, acc ++ [.ref w'], putK k1 (kI m.first) (.bl true), putK k2 (kI m.second) (.bl true), rfl, fun c o h => ?_, ?_, RowsN.same tB hR5, upd_same, ?_, ?_, ?_, ?_, ?_⟩
            · rw [upd_ne (ne_of_none h nL)]
              refine sw _ _ ?_
              rw [upd_ne (ne_of_none h nd20), upd_ne (ne_of_none h nd10)]
              exact s c o h
            · rw [upd_ne npL]
              refine sw _ _ ?_
              rw [upd_ne np2, upd_ne np1]
              exact hp5
            · rw [snoc, List.map_append]
              exact RowsN.snoc (RowsN.same tB hRL) (by rw [upd_ne nwL, upd_same]; rfl)
            · rw [upd_ne nL1.symm]
              refine sw _ _ ?_
              rw [upd_ne n12]
              exact upd_same
            · rw [snoc, putK_new (nn hk1 q1), List.map_append, hk1, List.map_append, List.map_append]; rfl
            · rw [upd_ne nL2.symm]
              exact sw _ _ upd_same
            · rw [snoc, putK_new (nn hk2 q2), List.map_append, hk2, List.map_append, List.map_append]; rfl
    · rintro σ H5 ⟨v6, v7, v8, v9, acc, k1, k2, rfl, s, hp5, hR5, hL, hRL, hd1, hk1, hd2, hk2⟩
      rw [lys, List.take_length, ← hP, ← match_eq] at hRL
      exact ⟨_, rfl, k H5 L acc s nL hL hRL⟩
def idsOut (v : Version) (l : List Nat) : List Nat := (v.map Feature.id).filter fun n => !decide (n ∈ l)
def spIdsW (K : PySem.W.Frag) : Sp := fun vs H Q _ => ∃ (a t : Addr) (v : Version) (l : List Nat), vs = [.ref a, .ref t] ∧ VerAt K H a v ∧ Srt v ∧ v.length ≤ 16 ∧ H t = some (.lst (l.map vN)) ∧ ∀ H' p, Same H H' → H p = none → H' p = some (.lst ((idsOut v l).map vN)) → Q (.ref p) H'
theorem sc_ids_without : FnScope ["version", "taken", "feature_id"] ["version", "taken"] (defScope s_ids_without) := ⟨rfl, rfl, rfl, by decide +kernel, rfl, by decide +kernel, by decide +kernel⟩
theorem ok_ids_without (T : Tx K mg) : Ok P w K mg ("ids_without", none) ["version", "taken"] 1 (spIdsW K) := by
  refine T.ok (i := 25) (d := d_ids_without) rfl rfl sc_ids_without (fun vs H Q E h => ?_) (fun _ _ _ _ _ _ us hl => match us, hl with | [_, _], _ => rfl) (fun base tb cdv A outer s H vs Q E hr h => ?_)
  · obtain ⟨a, t, v, l, rfl, _⟩ := h
    rfl
  · obtain ⟨a, t, v, l, rfl, ⟨kv, hd, D⟩, sr, lv, ht, k⟩ := h
    obtain ⟨ks, ek, lk, hs⟩ := D.sorted sr
    have hu := hu_of hr
    refine ⟨_, (pss_one (ps_ret (pe_lc (own := [("feature_id", 2)]) rfl sc_ids_without.nd (kPiL (K := K) rfl (pe_callB (call_sortedDI rfl) (by rfl) (T.free 93) (by decide +kernel) (pa_cons (pv 0) pa_nil))) (blkOk_by (N := ["version", "taken", "feature_id"]) (sc := defScope s_ids_without) (by decide +kernel)) (fun _ _ _ _ _ => (pg_name (i := 2) sc_ids_without.nd rfl (by first | exact Or.inl rfl | exact Or.inr rfl))) (fun _ _ _ _ _ => (pts_one (pt_cmpR (kNotIn (K := K) rfl) (pv 2) (pv 1) (by rfl)))) (fun _ _ _ _ _ => (pv 2))))), ?_⟩
    refine ⟨_, rfl, a, kv, ks, rfl, .inl hd, ek, by omega, fun ys p hp hq np => ⟨p, rfl, ⟨_, SqL.of upd_same⟩, ?_⟩⟩
    obtain rfl := hs ys hp hq
    have s1 := same_upd (o := .lst ((v.map fun f => (f.id : Int)).map V.int)) np
    have ev : (v.map fun f => (f.id : Int)).map V.int = (v.map Feature.id).map vN := by rw [List.map_map, List.map_map]; rfl
    refine fun Dd nD => lc_list (K := K) (a := p) (xs := (v.map Feature.id).map vN) (LcP _ Dd (fun i acc _ => acc = (((v.map Feature.id).take i).filter fun n => !decide (n ∈ l)).map vN)) (LcP.start nD rfl) (fun i H' _ q => q.1.seq (SqL.of (by rw [upd_same, ev]))) ?_ ?_
    · rintro i x H2 hx ⟨s2, acc, hD, hA, r⟩
      obtain ⟨n, e, rfl⟩ := nth_map hx
      have hi := (List.getElem?_eq_some_iff.mp e).1
      rw [List.length_map] at hi
      refine ⟨rfl, ?_⟩
      refine ⟨_, rfl, _, rfl, t, l.map vN, rfl, .inl (SqL.of (s2 _ _ (s1 _ _ ht))), rfl, flat_nat _, _, rfl, ?_⟩
      show if (!inV (vN n) (l.map vN)) = true then _ else _
      rw [inV_nat]
      by_cases q : n ∈ l
      · refine itF (by rw [decide_eq_true q]; rfl) ?_
        refine LcP.skip s2 hD hA (Same.refl _) ?_
        show acc = _
        rw [show acc = _ from r, take_snoc e, List.filter_append, List.filter_cons, decide_eq_true q]
        simp
      · refine itT (by rw [decide_eq_false q]; rfl) ?_
        refine ⟨_, rfl, LcP.put (n := 1000) nD s2 hD hA (Same.refl _) (by omega) ?_⟩
        show acc ++ [_] = _
        rw [show acc = _ from r, take_snoc e, List.filter_append, List.filter_cons, decide_eq_false q]
        simp
    · rintro H2 ⟨s2, acc, hD, hA, r⟩
      refine k H2 Dd (s1.trans s2) (s1.free nD) ?_
      rw [hD, show acc = _ from r, List.take_of_length_le (by simp)]
      rfl
end Pv
end
section
set_option Elab.async false
set_option linter.all false
set_option maxRecDepth 100000
set_option maxHeartbeats 2000000
namespace Pv
open PySem PySem.Spec PyProof.Rows L2 Kvg9
open L2 (Dp DpAll)
variable {P : Program} {w : World} {K : PySem.W.Frag} {mg : Str → Option Value}
theorem match_len {v u : Version} {tol : Nat} (h1 : v.length ≤ 16) (h2 : u.length ≤ 16) : (matchVersions v u tol).length ≤ 256 := by
  rw [match_eq]
  have := takenM_len (sortM (possM v u tol)) []
  have h3 := sortM_len (possM v u tol)
  have h4 := poss_len (tol := tol) h1 h2
  show (List.foldl tStep [] _).length ≤ 256
  simp at this
  omega
theorem idsOut_eq (v : Version) (l : List Match) (p : Match → Nat) : (v.filter fun f => !(l.any fun m => p m == f.id)).map (fun f => (f.id : Int)) = (idsOut v (l.map p)).map fun n : Nat => (n : Int) := by
  unfold idsOut
  rw [List.filter_map, List.map_map]
  have e : (fun f : Feature => !(l.any fun m => p m == f.id)) = ((fun n => !decide (n ∈ l.map p)) ∘ Feature.id) := by
    funext f
    show (!(l.any fun m => p m == f.id)) = !decide (f.id ∈ l.map p)
    congr 1
    rw [Bool.eq_iff_iff, decide_eq_true_eq, List.any_eq_true, List.mem_map]
    constructor
    · rintro ⟨m, hm, e⟩
      exact ⟨m, hm, eq_of_beq e⟩
    · rintro ⟨m, hm, e⟩
      exact ⟨m, hm, by rw [e]; simp⟩
  rw [e]
  rfl
theorem idsOut_len (v : Version) (l : List Nat) : (idsOut v l).length ≤ v.length := by
  unfold idsOut
  refine Nat.le_trans (List.length_filter_le _ _) ?_
  rw [List.length_map]
  exact Nat.le_refl _
def matchRow (v u : Version) (tol : Nat) : List Int := wrote ((matchVersions v u tol).map outRow) ++ ((idsOut v ((matchVersions v u tol).map Match.first)).length : Int) :: (idsOut v ((matchVersions v u tol).map Match.first)).map (fun n : Nat => (n : Int)) ++
  ((idsOut u ((matchVersions v u tol).map Match.second)).length : Int) :: (idsOut u ((matchVersions v u tol).map Match.second)).map fun n : Nat => (n : Int)
def matchOut (v u : Version) (tol : Nat) : Response :=
  ⟨((matchVersions v u tol).length : Nat), ((matchVersions v u tol).flatMap fun m => Kvg9.ints [m.first, m.second, m.kind, m.distance]) ++ ((v.filter fun f => !((matchVersions v u tol).any fun m => m.first == f.id)).length : Int) :: (v.filter fun f => !((matchVersions v u tol).any fun m => m.first == f.id)).map (fun f => (f.id : Int)) ++
    ((u.filter fun f => !((matchVersions v u tol).any fun m => m.second == f.id)).length : Int) :: (u.filter fun f => !((matchVersions v u tol).any fun m => m.second == f.id)).map fun f => (f.id : Int)⟩
theorem match_row (v u : Version) (tol : Nat) : Kvg9Neutral.resultRow (matchOut v u tol) = matchRow v u tol := by
  unfold Kvg9Neutral.resultRow matchOut matchRow wrote
  have e1 := idsOut_eq v (matchVersions v u tol) Match.first
  have e2 := idsOut_eq u (matchVersions v u tol) Match.second
  have l1 := congrArg List.length e1
  have l2 := congrArg List.length e2
  simp only [List.length_map] at l1 l2
  rw [e1, e2, l1, l2, List.flatMap_def, List.length_map]
  have e3 : (matchVersions v u tol).map outRow = (matchVersions v u tol).map fun m => Kvg9.ints [m.first, m.second, m.kind, m.distance] := List.map_congr_left fun m _ => rfl
  rw [e3]
  simp only [List.cons_append]
theorem pair_of {H : Hp} {ys : List V} {ms : List Match} (h : RowsN H ys (ms.map outRow)) {i : Nat} {x : V} (e : ys[i]? = some x) : ∃ m t, ms[i]? = some m ∧ x = .ref t ∧ H t = some (.tup ((outRow m).map V.int)) := by
  obtain ⟨r, t, e1, e2, e3⟩ := RowsN.at h e
  rw [List.getElem?_map] at e1
  cases em : ms[i]? with
  | none => rw [em] at e1; cases e1
  | some m =>
    rw [em] at e1
    obtain rfl : outRow m = r := Option.some.inj e1
    exact ⟨m, t, rfl, e2, e3⟩
theorem sc_match_features : FnScope ["store", "given", "first", "second", "pairs", "gone", "new", "pair"] ["store", "given"] (defScope s_match_features) := ⟨rfl, rfl, rfl, by decide +kernel, rfl, by decide +kernel, by decide +kernel⟩
theorem ok_match_features (T : Tx K mg) : Ok P w K mg ("match_features", none) ["store", "given"] 6 (spRun K g3 (fun x => x.2.2 < 4294967296) (fun x => Operation.matchFeatures x.1 x.2.1 x.2.2)) := by
  refine T.ok (i := 24) (d := d_match_features) rfl rfl sc_match_features (fun vs H Q E h => ?_) (fun _ _ _ _ _ _ us hl => match us, hl with | [_, _], _ => rfl) (fun base tb cdv A outer s H vs Q E hr h => ?_)
  · obtain ⟨a, s, m, g, x, xs, rfl, _⟩ := h
    rfl
  · obtain ⟨a, s, m, g, x, xs, rfl, S, G, tt, hg, rfl, hx, k⟩ := h
    obtain ⟨⟨dx, fs, h1, F⟩, ⟨kc, h2, C⟩, ⟨kb, h3, B⟩, ⟨kt, h4, T'⟩, ⟨kw, h5, D⟩, A⟩ := id S
    obtain ⟨na, nb, nt, nw⟩ := S.ne_a
    have hu := hu_of hr
    refine ⟨_, (pss_cons (ps_set (i := 2) sc_match_features.nd rfl (by first | exact Or.inl rfl | exact Or.inr rfl) (pe_methO (pv 0) (ok_Store_version_of T) tb (T.cls 145) (T.meth 160) hr (pa_cons (pe_ix (kIxL (K := K) rfl) (pv 1) pe_int (fun _ _ => rfl)) pa_nil)))
        (pss_cons (ps_set (i := 3) sc_match_features.nd rfl (by first | exact Or.inl rfl | exact Or.inr rfl) (pe_methO (pv 0) (ok_Store_version_of T) tb (T.cls 145) (T.meth 160) hr (pa_cons (pe_ix (kIxL (K := K) rfl) (pv 1) pe_int (fun _ _ => rfl)) pa_nil)))
        (pss_cons (ps_if (PW.pt (pw_or (pt_cmpR op_isN (pv 2) pe_non (nomark _)) (pw_or1 (pt_cmpR op_isN (pv 3) pe_non (nomark _)))))
          (pss_one (ps_ret (pe_lst (pa_cons (pe_gint (T.int 108) rfl) pa_nil)))) pss_nil)
        (pss_cons (ps_set (i := 4) sc_match_features.nd rfl (by first | exact Or.inl rfl | exact Or.inr rfl) (pe_callO (ok_taken_pairs T) tb (T.glo 15) hr rfl (pa_cons (pv 2) (pa_cons (pv 3) (pa_cons (pe_ix (kIxL (K := K) rfl) (pv 1) pe_int (fun _ _ => rfl)) pa_nil)))))
        (pss_cons (ps_set (i := 5) sc_match_features.nd rfl (by first | exact Or.inl rfl | exact Or.inr rfl) (pe_callO (ok_ids_without T) tb (T.glo 25) hr rfl (pa_cons (pv 2) (pa_cons (pe_lc (own := [("pair", 7)]) rfl sc_match_features.nd (kPiL (K := K) rfl (pv 4)) (blkOk_by (N := ["store", "given", "first", "second", "pairs", "gone", "new", "pair"]) (sc := defScope s_match_features) (by decide +kernel)) (fun _ _ _ _ _ => (pg_name (i := 7) sc_match_features.nd rfl (by first | exact Or.inl rfl | exact Or.inr rfl))) (fun _ _ _ _ _ => pts_nil) (fun _ _ _ _ _ => (pe_ix (kIxT (K := K) rfl) (pv 7) pe_int (fun _ _ => rfl)))) pa_nil))))
        (pss_cons (ps_set (i := 6) sc_match_features.nd rfl (by first | exact Or.inl rfl | exact Or.inr rfl) (pe_callO (ok_ids_without T) tb (T.glo 25) hr rfl (pa_cons (pv 3) (pa_cons (pe_lc (own := [("pair", 7)]) rfl sc_match_features.nd (kPiL (K := K) rfl (pv 4)) (blkOk_by (N := ["store", "given", "first", "second", "pairs", "gone", "new", "pair"]) (sc := defScope s_match_features) (by decide +kernel)) (fun _ _ _ _ _ => (pg_name (i := 7) sc_match_features.nd rfl (by first | exact Or.inl rfl | exact Or.inr rfl))) (fun _ _ _ _ _ => pts_nil) (fun _ _ _ _ _ => (pe_ix (kIxT (K := K) rfl) (pv 7) pe_int (fun _ _ => rfl)))) pa_nil))))
        (pss_one (ps_ret (pe_op op_cat (pe_op op_cat (pe_op op_cat (pe_op op_cat (pe_callO (ok_counted T) tb (T.glo 21) hr rfl (pa_cons (pv 4) pa_nil)) (pe_lst (pa_cons (pe_callB (kLen (K := K) rfl) (by rfl) (T.free 87) PySem.boot_len (pa_cons (pv 5) pa_nil)) pa_nil))) (pv 5)) (pe_lst (pa_cons (pe_callB (kLen (K := K) rfl) (by rfl) (T.free 87) PySem.boot_len (pa_cons (pv 6) pa_nil)) pa_nil))) (pv 6)))))))))), ?_⟩
    obtain ⟨c, d, tol⟩ := x
    dsimp only at hg k hx
    have er : s.run (.matchFeatures c d tol) = match s.source c, s.source d with
      | some v, some w => (s, matchOut v w tol)
      | _, _ => (s, .error (-2)) := rfl
    refine ⟨_, rfl, a, dx, _, rfl, h1, F.only ("version_of" : Str) (by decide +kernel), _, rfl, g, _, _, _, rfl, rfl, SqL.of hg, atI_nat (j := 0) rfl, a, s, m, _, c, rfl, S, G, fun hs => ?_, fun d1 v hs hv => ?_⟩
    · refine ⟨_, rfl, a, dx, _, rfl, h1, F.only ("version_of" : Str) (by decide +kernel), _, rfl, g, _, _, _, rfl, rfl, SqL.of hg, atI_nat (j := 1) rfl, a, s, m, _, d, rfl, S, G, fun hs2 => ?_, fun d2 v2 hs2 hv2 => ?_⟩
      · rw [hs, hs2] at er
        refine ⟨_, rfl, rfl, _, rfl, ?_⟩
        exact lit_done S tt (by rw [er]) (by rw [er] <;> rfl) rfl k
      · rw [hs, hs2] at er
        refine ⟨_, rfl, rfl, _, rfl, ?_⟩
        exact lit_done S tt (by rw [er]) (by rw [er] <;> rfl) rfl k
    · refine ⟨_, rfl, a, dx, _, rfl, h1, F.only ("version_of" : Str) (by decide +kernel), _, rfl, g, _, _, _, rfl, rfl, SqL.of hg, atI_nat (j := 1) rfl, a, s, m, _, d, rfl, S, G, fun hs2 => ?_, fun d2 u hs2 hu2 => ?_⟩
      · rw [hs, hs2] at er
        refine ⟨_, rfl, rfl, _, rfl, ?_⟩
        refine ⟨_, rfl, rfl, _, rfl, ?_⟩
        exact lit_done S tt (by rw [er]) (by rw [er] <;> rfl) rfl k
      · rw [hs, hs2] at er
        replace er : s.run (.matchFeatures c d tol) = (s, matchOut v u tol) := er
        have ov := src_ok G hs
        have ou := src_ok G hs2
        have ml := match_len (tol := tol) ov.len ou.len
        refine ⟨_, rfl, rfl, _, rfl, ?_⟩
        refine ⟨_, rfl, rfl, _, rfl, ?_⟩
        refine ⟨_, rfl, _, rfl, _, rfl, g, _, _, _, rfl, rfl, SqL.of hg, atI_nat (j := 2) rfl, d1, d2, v, u, s.attributeCount, tol, rfl, hv, hu2, ov, ou, hx, fun H1 p ys s1 np hp hR => ?_⟩
        have lys : ys.length = (matchVersions v u tol).length := by rw [hR.len, List.length_map]
        have er' := match_row v u tol
        unfold matchRow at er'
        generalize matchVersions v u tol = Ms at hR ml lys er'
        -- the ids of the first version
        refine ⟨_, rfl, _, rfl, p, rfl, ⟨_, SqL.of hp⟩, fun D nD => lc_list (K := K) (a := p) (xs := ys) (LcP H1 D (fun i acc _ => acc = ((Ms.take i).map Match.first).map vN)) (LcP.start nD rfl) (fun i H' _ q => q.1.seq (SqL.of hp)) ?_ ?_⟩
        · rintro i x H2 hx2 ⟨s2, acc, hD, hA, r⟩
          obtain ⟨mm, t, em, rfl, ht⟩ := pair_of hR hx2
          have hi := (List.getElem?_eq_some_iff.mp em).1
          refine ⟨rfl, ?_⟩
          refine ⟨_, rfl, t, _, _, _, rfl, rfl, SqT.of (s2 _ _ ht), atI_nat (j := 0) rfl, ?_⟩
          refine LcP.put (n := 1000) nD s2 hD hA (Same.refl _) (by omega) ?_
          show acc ++ [_] = _
          rw [show acc = _ from r, take_snoc em, List.map_append, List.map_append]
          rfl
        rintro H2 ⟨s2, acc, hD, hA, r⟩
        have r : acc = ((Ms.take ys.length).map Match.first).map vN := r
        rw [lys, List.take_length] at r
        rw [r] at hD
        refine ⟨d1, D, v, Ms.map Match.first, rfl, hv.same (s1.trans s2), ov.srt, ov.len, hD, fun H3 q s3 nq hq => ?_⟩
        -- the ids of the second version
        have s23 := s2.trans s3
        have hp3 := s23 _ _ hp
        have hR3 := RowsN.same (fun b o h _ => s23 b o h) hR
        refine ⟨_, rfl, _, rfl, p, rfl, ⟨_, SqL.of hp3⟩, fun D' nD' => lc_list (K := K) (a := p) (xs := ys) (LcP H3 D' (fun i acc _ => acc = ((Ms.take i).map Match.second).map vN)) (LcP.start nD' rfl) (fun i H' _ q => q.1.seq (SqL.of hp3)) ?_ ?_⟩
        · rintro i x H4 hx2 ⟨s4, acc, hD, hA, r⟩
          obtain ⟨mm, t, em, rfl, ht⟩ := pair_of hR3 hx2
          have hi := (List.getElem?_eq_some_iff.mp em).1
          refine ⟨rfl, ?_⟩
          refine ⟨_, rfl, t, _, _, _, rfl, rfl, SqT.of (s4 _ _ ht), atI_nat (j := 1) rfl, ?_⟩
          refine LcP.put (n := 1000) nD' s4 hD hA (Same.refl _) (by omega) ?_
          show acc ++ [_] = _
          rw [show acc = _ from r, take_snoc em, List.map_append, List.map_append]
          rfl
        rintro H4 ⟨s4, acc', hD', hA', r'⟩
        have r' : acc' = ((Ms.take ys.length).map Match.second).map vN := r'
        rw [lys, List.take_length] at r'
        rw [r'] at hD'
        have s14 := s1.trans (s23.trans s4)
        refine ⟨d2, D', u, Ms.map Match.second, rfl, hu2.same s14, ou.srt, ou.len, hD', fun H5 q' s5 nq' hq' => ?_⟩
        have s45 := s4.trans s5
        have lf := idsOut_len v (Ms.map Match.first)
        have lg := idsOut_len u (Ms.map Match.second)
        have := ov.len
        have := ou.len
        refine ⟨_, rfl, p, ys, Ms.map outRow, rfl, .inl (SqL.of (s45 _ _ hp3)), (RowsN.same (fun b o h _ => s45 b o h) hR3).rows, by rw [List.length_map]; omega, fun r hr => by obtain ⟨m, _, rfl⟩ := List.mem_map.mp hr; show 4 ≤ 10; decide, fun H6 w1 s6 nw1 hw1 => ?_⟩
        have s46 := s45.trans s6
        have hq6 := s46 _ _ hq
        have hq'6 := s6 _ _ hq'
        have wl : (wrote (Ms.map outRow)).length ≤ 3000 := by
          have := flat_len (rs := Ms.map outRow) fun r hr => by obtain ⟨m, _, rfl⟩ := List.mem_map.mp hr; show 4 ≤ 10; decide
          unfold wrote
          rw [List.length_map] at this
          rw [List.length_cons]
          omega
        refine ⟨_, rfl, q, _, rfl, .inl (SqL.of hq6), by show 1 ≤ sizeLine; decide, fun w2 nw2 => ?_⟩
        have s7 := same_upd (o := .lst [V.int (((idsOut v (Ms.map Match.first)).map vN).length : Nat)]) nw2
        refine ⟨w1, w2, _, _, rfl, rfl, s7 _ _ hw1, upd_same, small' (m := 9000) (by simp; omega), fun w3 nw3 => ?_⟩
        have s8 := same_upd (o := .lst ((wrote (Ms.map outRow)).map V.int ++ [V.int (((idsOut v (Ms.map Match.first)).map vN).length : Nat)])) nw3
        refine ⟨_, rfl, w3, q, _, _, rfl, rfl, upd_same, s8 _ _ (s7 _ _ hq6), small' (m := 9000) (by simp; omega), fun w4 nw4 => ?_⟩
        have s9 := same_upd (o := .lst ((wrote (Ms.map outRow)).map V.int ++ [V.int (((idsOut v (Ms.map Match.first)).map vN).length : Nat)] ++ (idsOut v (Ms.map Match.first)).map vN)) nw4
        have s79 := s7.trans (s8.trans s9)
        refine ⟨_, rfl, q', _, rfl, .inl (SqL.of (s79 _ _ hq'6)), by show 1 ≤ sizeLine; decide, fun w5 nw5 => ?_⟩
        have s10 := same_upd (o := .lst [V.int (((idsOut u (Ms.map Match.second)).map vN).length : Nat)]) nw5
        refine ⟨w4, w5, _, _, rfl, rfl, s10 _ _ upd_same, upd_same, small' (m := 9000) (by simp; omega), fun w6 nw6 => ?_⟩
        have s11 := same_upd (o := .lst ((wrote (Ms.map outRow)).map V.int ++ [V.int (((idsOut v (Ms.map Match.first)).map vN).length : Nat)] ++ (idsOut v (Ms.map Match.first)).map vN ++ [V.int (((idsOut u (Ms.map Match.second)).map vN).length : Nat)])) nw6
        have s711 := s79.trans (s10.trans s11)
        refine ⟨_, rfl, w6, q', _, _, rfl, rfl, upd_same, s711 _ _ hq'6, small' (m := 9000) (by simp; omega), fun w7 nw7 => ?_⟩
        have sZ := (s14.trans (s5.trans s6)).trans (s711.trans (same_upd (o := .lst ((wrote (Ms.map outRow)).map V.int ++ [V.int (((idsOut v (Ms.map Match.first)).map vN).length : Nat)] ++ (idsOut v (Ms.map Match.first)).map vN ++ [V.int (((idsOut u (Ms.map Match.second)).map vN).length : Nat)] ++ (idsOut u (Ms.map Match.second)).map vN)) nw7))
        refine same_done (l := matchRow v u tol) S tt (by rw [er]) (by rw [er]; exact match_row v u tol) k sZ (((s14.trans (s5.trans s6)).trans s711).free nw7) ?_
        rw [upd_same, ← match_row, er']
        simp [List.map_map, Function.comp_def]
end Pv
end
section
set_option Elab.async false
set_option linter.all false
set_option maxRecDepth 100000
set_option maxHeartbeats 2000000
namespace Pv
open PySem PySem.Spec PyProof.Rows L2 Kvg9
open L2 (Dp DpAll)
variable {P : Program} {w : World} {K : PySem.W.Frag} {mg : Str → Option Value}
theorem lex_uniqD {d : Nat} {l m : List (List Int)} (hl : ∀ r ∈ l, r.length = d) (hm : ∀ r ∈ m, r.length = d) (sl : LexSorted l) (sm : LexSorted m) (p : l.Perm m) : l = m := by
  refine List.Perm.eq_of_pairwise (le := fun x y => lexL y x = false) (fun a b ha hb h1 h2 => ?_) sl sm p
  rcases lexL_tot a b (by rw [hl a ha, hm b hb]) with h | h | h
  · rw [h2] at h; cases h
  · exact h
  · rw [h1] at h; cases h
abbrev nRow (e : Nat × Nat) : List Int := [(e.1 : Int), (e.2 : Int)]
theorem nRows_srt {l : List (Nat × Nat)} (s : NSrt l) : LexSorted (l.map nRow) := by
  rw [LexSorted, List.pairwise_map]
  refine List.Pairwise.imp (R := fun (a b : Nat × Nat) => a.1 < b.1) (fun {a b} h => ?_) s
  cases e : lexL (nRow b) (nRow a) with
  | false => rfl
  | true =>
    rcases (lexL_cons _ _ _ _).mp e with q | ⟨q, _⟩ <;> omega
theorem NamD.items {kvs : List (Key × V)} {l : List (Nat × Nat)} (D : NamD kvs l) (sr : NSrt l) : ∃ z : List (Int × Int), kvs = z.map entI ∧ (z.map fun e => [e.1, e.2]).Perm (l.map nRow) := by
  have make : ∀ ks : List (Key × V), (∀ p ∈ ks, p ∈ kvs) → ∃ y : List (Nat × Nat), ks = y.map (fun e => (kI e.1, vN e.2)) ∧ ∀ e ∈ y, e ∈ l := by
    intro ks
    induction ks with
    | nil => exact fun _ => ⟨[], rfl, fun _ h => by cases h⟩
    | cons p ks ih =>
      intro h
      obtain ⟨y, e, m⟩ := ih fun q hq => h q (List.mem_cons_of_mem _ hq)
      have hp := h p (by simp)
      obtain ⟨n, en⟩ := D.only p.1 (List.mem_map_of_mem hp)
      have hv := valV_mem D.nd hp
      rw [en, D.get] at hv
      cases hl : lookup l n with
      | none => rw [hl] at hv; cases hv
      | some c =>
        rw [hl] at hv
        have hv : vN c = p.2 := Option.some.inj hv
        refine ⟨(n, c) :: y, ?_, fun e he => ?_⟩
        · rw [List.map_cons, ← e]
          congr 1
          exact Prod.ext en hv.symm
        · rcases List.mem_cons.mp he with q | q
          · rw [q]; exact look_mem hl
          · exact m e q
  obtain ⟨y, e, m⟩ := make kvs fun _ h => h
  have ndy : (y.map (·.1)).Nodup := by
    have := D.nd
    rw [e, List.map_map] at this
    rw [List.nodup_iff_pairwise_ne, List.pairwise_map]
    have h2 := List.nodup_iff_pairwise_ne.mp this
    rw [List.pairwise_map] at h2
    exact List.Pairwise.imp (fun {a b} h z => h (by show kI a.1 = kI b.1; rw [z])) h2
  have nd1 : y.Nodup := List.nodup_iff_pairwise_ne.mpr (List.Pairwise.of_map _ (fun a b h z => h (by rw [z])) (List.nodup_iff_pairwise_ne.mp ndy))
  have nd2 : l.Nodup := List.nodup_iff_pairwise_ne.mpr (List.Pairwise.imp (R := fun (a b : Nat × Nat) => a.1 < b.1) (fun {a b} h z => by rw [z] at h; exact Nat.lt_irrefl _ h) sr)
  have pm : y.Perm l := (List.perm_ext_iff_of_nodup nd1 nd2).mpr fun x => ⟨m x, fun hx => by
    have hs : valV kvs (kI x.1) = some (vN x.2) := by rw [D.get, look_of_mem sr hx]; rfl
    have hk := valV_in hs
    rw [e, List.map_map] at hk
    obtain ⟨q, hq, eq⟩ := List.mem_map.mp hk
    have e1 : q.1 = x.1 := kI_inj.mp eq
    have := m q hq
    have h1 := look_of_mem sr this
    rw [e1, look_of_mem sr hx] at h1
    have e2 : q.2 = x.2 := (Option.some.inj h1).symm
    rw [← Prod.ext e1 e2]; exact hq⟩
  refine ⟨y.map fun e => ((e.1 : Int), (e.2 : Int)), ?_, ?_⟩
  · rw [e, List.map_map]; rfl
  · rw [List.map_map]
    exact pm.map _
def stateOut (s : Store) : Response := ⟨(s.attributeCount : Nat), Kvg9.ints ([s.commits.length, s.current, s.head, if s.isChanged then 1 else 0, s.branches.length] ++ s.branches.flatMap (fun e => [e.1, e.2]) ++ [s.tags.length] ++ s.tags.flatMap fun e => [e.1, e.2])⟩
theorem flat_row (l : List (Nat × Nat)) : (l.flatMap fun e => [e.1, e.2]).map (fun n : Nat => (n : Int)) = (l.map nRow).flatten := by
  induction l with
  | nil => rfl
  | cons e l ih => rw [List.flatMap_cons, List.map_append, ih]; rfl
theorem state_row (s : Store) : Kvg9Neutral.resultRow (stateOut s) = [(s.attributeCount : Int), (s.commits.length : Int), (s.current : Int), (s.head : Int), ((if s.isChanged then 1 else 0 : Nat) : Int)] ++ wrote (s.branches.map nRow) ++ wrote (s.tags.map nRow) := by
  unfold Kvg9Neutral.resultRow stateOut wrote
  have h : ∀ l : List Nat, Kvg9.ints l = l.map fun n : Nat => (n : Int) := fun l => rfl
  rw [h, List.map_append, List.map_append, List.map_append, flat_row, flat_row, List.length_map, List.length_map]
  simp
theorem sc_get_state : FnScope ["store", "given", "changed", "state"] ["store", "given"] (defScope s_get_state) := ⟨rfl, rfl, rfl, by decide +kernel, rfl, by decide +kernel, by decide +kernel⟩
theorem ok_get_state (T : Tx K mg) : Ok P w K mg ("get_state", none) ["store", "given"] 4 (spRun K g0 (fun _ => True) (fun _ => Operation.getState)) := by
  refine T.ok (i := 64) (d := d_get_state) rfl rfl sc_get_state (fun vs H Q E h => ?_) (fun _ _ _ _ _ _ us hl => match us, hl with | [_, _], _ => rfl) (fun base tb cdv A outer s H vs Q E hr h => ?_)
  · obtain ⟨a, s, m, g, x, xs, rfl, _⟩ := h
    rfl
  · obtain ⟨a, s, m, g, x, xs, rfl, S, G, tt, hg, rfl, hx, k⟩ := h
    obtain ⟨⟨dx, fs, h1, F⟩, ⟨kc, h2, C⟩, ⟨kb, h3, B⟩, ⟨kt, h4, T'⟩, ⟨kw, h5, D⟩, A⟩ := id S
    obtain ⟨na, nb, nt, nw⟩ := S.ne_a
    have hu := hu_of hr
    refine ⟨_, (pss_cons (ps_set (i := 2) sc_get_state.nd rfl (by first | exact Or.inl rfl | exact Or.inr rfl) (pe_ifExp (pt_val (pe_methO0 (pv 0) (ok_Store_is_changed T) tb (T.cls 145) (T.meth 157) hr)) pe_int pe_int))
        (pss_cons (ps_set (i := 3) sc_get_state.nd rfl (by first | exact Or.inl rfl | exact Or.inr rfl) (pe_lst (pa_cons (pe_fld (pv 0) rfl) (pa_cons (pe_fld (pv 0) rfl) (pa_cons (pe_fld (pv 0) rfl) (pa_cons (pe_methO0 (pv 0) (ok_Store_head T) tb (T.cls 145) (T.meth 155) hr) (pa_cons (pv 2) pa_nil)))))))
        (pss_one (ps_ret (pe_op op_cat (pe_op op_cat (pv 3) (pe_callO (ok_counted T) tb (T.glo 21) hr rfl (pa_cons (pe_callB (cr_sortItems rfl) (by rfl) (T.free 93) (by decide +kernel) (pa_cons (pe_bm0 PySem.F.plainAttrs_dict PySem.F.slot_dict_items PySem.F.type_dict_items mt_itemsK (pe_fld (pv 0) rfl)) pa_nil)) pa_nil))) (pe_callO (ok_counted T) tb (T.glo 21) hr rfl (pa_cons (pe_callB (cr_sortItems rfl) (by rfl) (T.free 93) (by decide +kernel) (pa_cons (pe_bm0 PySem.F.plainAttrs_dict PySem.F.slot_dict_items PySem.F.type_dict_items mt_itemsK (pe_fld (pv 0) rfl)) pa_nil)) pa_nil))))))), ?_⟩
    have er : s.run .getState = (s, stateOut s) := rfl
    dsimp only at k
    obtain ⟨zb, eb, pb⟩ := B.items G.br.srt
    obtain ⟨zt, et, pt⟩ := T'.items G.tg.srt
    have hlb := G.br.len
    have hlt := G.tg.len
    have r2 : ∀ {l : List (Nat × Nat)}, ∀ r ∈ l.map nRow, r.length ≤ 10 := fun {l} r hr => by
      obtain ⟨e, _, rfl⟩ := List.mem_map.mp hr
      show 2 ≤ 10
      decide
    have r22 : ∀ {l : List (Nat × Nat)}, ∀ r ∈ l.map nRow, r.length = 2 := fun {l} r hr => by
      obtain ⟨e, _, rfl⟩ := List.mem_map.mp hr
      rfl
    have wl : ∀ {l : List (Nat × Nat)}, l.length ≤ 8 → (wrote (l.map nRow)).length ≤ 100 := fun {l} h => by
      have := flat_len (rs := l.map nRow) r2
      rw [List.length_map] at this
      unfold wrote
      rw [List.length_cons]
      omega
    have wb := wl hlb
    have wt := wl hlt
    refine ⟨_, rfl, a, dx, _, rfl, h1, F.only ("is_changed" : Str) (by decide +kernel), a, s, m, _, rfl, S, G, _, rfl, ?_⟩
    have es := state_row s
    generalize hch : (if s.isChanged then 1 else 0 : Nat) = ch at es
    have ubr : ∀ {rs : List (List Int)}, rs.Perm (zb.map fun e => [e.1, e.2]) → LexSorted rs → rs = s.branches.map nRow := fun {rs} hp hs => by
      have pm := hp.trans pb
      exact lex_uniqD (d := 2) (fun r hr => r22 r (pm.mem_iff.mp hr)) r22 hs (nRows_srt G.br.srt) pm
    have utg : ∀ {rs : List (List Int)}, rs.Perm (zt.map fun e => [e.1, e.2]) → LexSorted rs → rs = s.tags.map nRow := fun {rs} hp hs => by
      have pm := hp.trans pt
      exact lex_uniqD (d := 2) (fun r hr => r22 r (pm.mem_iff.mp hr)) r22 hs (nRows_srt G.tg.srt) pm
    rw [eb] at h3
    rw [et] at h4
    cases hcc : s.isChanged
    case' true => refine itT rfl ?_
    case' false => refine itF rfl ?_
    all_goals
      rw [hcc] at hch
      refine ⟨_, rfl, _, _, _, _, _, rfl, h1, (T.cls 145), (T.noat 147), F.ac, _, rfl, _, _, _, _, _, rfl, h1, (T.cls 145), (T.noat 149), F.cc, _, rfl, _, _, _, _, _, rfl, h1, (T.cls 145), (T.noat 151), F.cu, _, rfl, a, dx, _, rfl, h1, F.only ("head" : Str) (by decide +kernel), a, s, m, _, rfl, S, G.hd, V.int (ch : Nat), (by rw [← hch]; rfl), by show 5 ≤ sizeLine; decide, fun p np => ?_⟩
      have s1 := same_upd (o := .lst [V.int (s.attributeCount : Nat), V.int (s.commits.length : Nat), V.int (s.current : Nat), V.int (s.head : Nat), V.int (ch : Nat)]) np
      have h1' := s1 _ _ h1
      have h3' := s1 _ _ h3
      have h4' := s1 _ _ h4
      refine ⟨_, rfl, _, rfl, _, _, _, _, _, rfl, h1', (T.cls 145), (T.noat 148), F.br, .inr (.inr (.inl ⟨rfl, .inl ⟨_, h3'⟩⟩)), m.db, _, rfl, rfl, h3', fun q nq => ?_⟩
      have s2 := same_upd (o := L2.DX.itemsO q m.db) nq
      refine ⟨q, m.db, zb, rfl, upd_same, s2 _ _ h3', fun H3 w1 xs rs s3 nw1 hw1 hR hp hs => ?_⟩
      obtain rfl := ubr hp hs
      refine ⟨w1, xs, _, rfl, .inl (SqL.of hw1), hR.rows, by rw [List.length_map]; omega, r2, fun H4 w2 s4 nw2 hw2 => ?_⟩
      have s24 := s2.trans (s3.trans s4)
      have hp4 := s24 _ _ upd_same
      refine ⟨p, w2, _, _, rfl, rfl, hp4, hw2, small' (m := 1000) (by simp; omega), fun w3 nw3 => ?_⟩
      have s5 := same_upd (o := .lst ([V.int (s.attributeCount : Nat), V.int (s.commits.length : Nat), V.int (s.current : Nat), V.int (s.head : Nat), V.int (ch : Nat)] ++ (wrote (s.branches.map nRow)).map V.int)) nw3
      have s25 := s24.trans s5
      have h1'' := s25 _ _ h1'
      have h4'' := s25 _ _ h4'
      refine ⟨_, rfl, _, _, _, _, _, rfl, h1'', (T.cls 145), (T.noat 152), F.tg, .inr (.inr (.inl ⟨rfl, .inl ⟨_, h4''⟩⟩)), m.dt, _, rfl, rfl, h4'', fun q' nq' => ?_⟩
      have s6 := same_upd (o := L2.DX.itemsO q' m.dt) nq'
      refine ⟨q', m.dt, zt, rfl, upd_same, s6 _ _ h4'', fun H7 w1' xs' rs' s7 nw1' hw1' hR' hp' hs' => ?_⟩
      obtain rfl := utg hp' hs'
      refine ⟨w1', xs', _, rfl, .inl (SqL.of hw1'), hR'.rows, by rw [List.length_map]; omega, r2, fun H8 w2' s8 nw2' hw2' => ?_⟩
      have s68 := s6.trans (s7.trans s8)
      refine ⟨w3, w2', _, _, rfl, rfl, s68 _ _ upd_same, hw2', small' (m := 1000) (by simp; omega), fun r nr => ?_⟩
      have sZ := (s1.trans s25).trans s68
      refine same_done (l := [(s.attributeCount : Int), (s.commits.length : Int), (s.current : Int), (s.head : Int), (ch : Int)] ++ wrote (s.branches.map nRow) ++ wrote (s.tags.map nRow)) S tt (by rw [er]) (by rw [er, es]) k (sZ.trans (same_upd nr)) (sZ.free nr) ?_
      rw [upd_same]
      simp
end Pv
end
section
set_option Elab.async false
set_option linter.all false
set_option maxRecDepth 100000
set_option maxHeartbeats 2000000
namespace Pv
open PySem PySem.Spec PyProof.Rows L2 Kvg9
open L2 (Dp DpAll)
variable {P : Program} {w : World} {K : PySem.W.Frag} {mg : Str → Option Value}
/-! ### functions without a name, handed to defs -/
/-- the function F (its body the expression bd) lies at f, its cells hold ws, no running frame is among them -/
structure Lm (F : NdefX.NF) (bd : Expr) (fr : List Str) (ws : List (Option V)) (f : Addr) (outer : List Env) (s : Shared) (H : Hp) : Prop where
  get : ∃ pm ctv, s.heap.get? f = some (PySem.W.kla_obj "<lambda>" F.qual F.params bd F.scope F.cl pm F.c ctv)
  un : H f = none
  nf : f ∉ frs outer
  cells : NdefX.CellsAt F.cl fr ws s.heap H
  cnf : ∀ y c, F.cl.lookup y = some c → c ∉ frs outer
theorem Lm.later {X : Cx} {F : NdefX.NF} {bd : Expr} {fr : List Str} {ws : List (Option V)} {f : Addr} {pins : List (Addr × Obj)} {σ : L2.St} {s : Shared} {H : Hp} (L : Lm F bd fr ws f X.outer X.s_0 X.H_0) (hx : X.ex = []) (I : Inv X pins σ H s) : Lm F bd fr ws f X.stack s H := by
  have nox : ∀ a : Addr, a ∉ X.ex := fun a z => by rw [hx] at z; cases z
  have far : ∀ a o, X.s_0.heap.get? a = some o → a ∉ frs X.outer → a ∉ frs X.stack := fun a o e n z => by
    rcases List.mem_cons.mp (I.stkSub a z) with q | q
    · have h1 := Heap.lt_size e
      have h2 := I.ok.above
      rw [← q] at h2
      exact absurd (Nat.lt_of_lt_of_le h1 h2) (Nat.lt_irrefl _)
    · exact n q
  obtain ⟨pm, ctv, hf⟩ := L.get
  refine ⟨⟨pm, ctv, I.base.keep f _ hf L.un L.nf (nox f)⟩, I.base.free f _ hf L.un (nox f), far f _ hf L.nf, L.cells.later L.cnf (fun _ c _ => nox c) I, fun y c e => ?_⟩
  obtain ⟨_, v, o, ho, _⟩ := L.cells.all y c e
  exact far c o ho (L.cnf y c e)
/-- what the function at f does, wherever k rooms are left -/
def Tells (P : Program) (w : World) (K : PySem.W.Frag) (mg : Str → Option Value) (k : Nat) (F : NdefX.NF) (bd : Expr) (fr : List Str) (ws : List (Option V)) (f : Addr) (sp : List V → Hp → VK → Prop) : Prop :=
  ∀ (base : Heap), Tb K mg base → ∀ (A : Around) (outer : List Env) (s : Shared) (H : Hp) (us : List Value) (vs : List V) (Q : VK), Room k A → Env0 P w K mg base A outer s H → Lm F bd fr ws f outer s H → H F.c = some (LamX.CodeO F.c F.qual) → Vals vs us → sp vs H Q →
    codeAny (model P w) A (.call (.ref f) ⟨us, []⟩) (CR CX0 outer P w H s Q E0) s
/-- it does what its body does -/
theorem tells_of {F : NdefX.NF} {bd : Expr} {N ps fr : List Str} {ws : List (Option V)} {f : Addr} {k : Nat} {sp : List V → Hp → VK → Prop} (S : NdefX.NScope N ps fr F.scope) (hb : ∀ pm ctv us, us.length = ps.length → bindArgs (PySem.W.kla_fn "<lambda>" F.qual F.params bd F.scope F.cl pm (.ref F.c) ctv) ⟨us, []⟩ = pure (ps.zip us))
    (len : ∀ vs H Q, sp vs H Q → vs.length = ps.length)
    (body : ∀ (base : Heap) (_ : Tb K mg base) (A : Around) (outer : List Env) (s : Shared) (H : Hp) (vs : List V) (Q : VK), Room k (A.deeper (NdefX.envF F f s.heap.objs.size)) → sp vs H Q → ∃ t, PE (NdefX.ncx CX0 P w K mg base N F f A outer s H E0) bd t ∧ t (NdefX.startF N vs ws) H Q) :
    Tells P w K mg (k + 1) F bd fr ws f sp := by
  intro base tb A outer s H us vs Q hr e0 L hc r hsp
  have hl := len _ _ _ hsp
  have lim : s.heap.NoLimit := e0.mod.nolimit.keeps fun b o e => (e0.bs b o e).1
  obtain ⟨pm, ctv, hf⟩ := L.get
  obtain ⟨oc, vs', t, ec, hoc, hdc, hvc⟩ := NdefX.codeO_at e0.hok hc
  refine PySem.W.kla_callFunE hr.depth hf rfl S.co S.gen rfl ⟨oc, vs', t, ec, hoc, hdc, hvc⟩ ?_
  rw [hb pm ctv us (by rw [← r.length]; exact hl)]
  refine wpAny_pure (wpAny_newFunctionEnv S.nocell (fun ⟨n, _⟩ hy => S.par n (List.of_mem_zip hy).1) (fun h₁ hns hsb => ⟨lim.fresh _ hsb, ?_⟩) S.kind)
  show codeAny _ _ (.expr bd (NdefX.envF F f s.heap.objs.size)) _ _
  have kp : ∀ b o, s.heap.get? b = some o → h₁.get? b = some o := fun b o e => hsb.extBut b o (Nat.ne_of_lt (Heap.lt_size e)) (Heap.get?_push_of_some _ e)
  obtain ⟨t, ht, hq⟩ := body base tb A outer s H vs Q (hr.deeper _) hsp
  have I : Inv (NdefX.ncx CX0 P w K mg base N F f A outer s H E0) [] (NdefX.startF N vs ws) H { s with heap := h₁, toks := s.toks + (ps.zip us).length } := NdefX.inv_startN S hr.hd e0 hl r L.cells hns kp
  refine PySem.W.kla_codeExpr (wpAny_mono (ht.run [] _ _ H Q I hq) (fun v s' hq => ?_) fun e s' hq => hq)
  obtain ⟨w', H', J', rv, q⟩ := hq
  exact ⟨w', H', J'.os, J'.bare, J'.base, J'.hok, rv, q⟩
/-- a def of the text that is handed such a function: its promise speaks of the very state -/
structure OkS (P : Program) (w : World) (K : PySem.W.Frag) (mg : Str → Option Value) (at_ : Str × Option Str) (ps : List Str) (k : Nat) (sp : List Env → Shared → List V → Hp → VK → Prop) : Prop where
  ex : ∃ fd, (∀ base, Tb K mg base → ∀ (A : Around) (outer : List Env) (s : Shared) (H : Hp) (us : List Value) (vs : List V) (Q : VK), Room k A → Env0 P w K mg base A outer s H → BindsTo s fd ⟨us, []⟩ (ps.zip us) → Vals vs us → sp outer s vs H Q →
      codeAny (model P w) A (.call (.ref (He.fAd K at_)) ⟨us, []⟩) (CR CX0 outer P w H s Q E0) s) ∧ (∀ (s : Shared) (us : List Value), us.length = ps.length → BindsTo s fd ⟨us, []⟩ (ps.zip us)) ∧ ∀ outer s vs H Q, sp outer s vs H Q → vs.length = ps.length
  kp : PySem.W.keepIn K (.ref (He.fAd K at_)) = true
theorem OkS.mono {at_ : Str × Option Str} {ps : List Str} {j k : Nat} {sp : List Env → Shared → List V → Hp → VK → Prop} (o : OkS P w K mg at_ ps j sp) (h : j ≤ k) : OkS P w K mg at_ ps k sp := by
  obtain ⟨⟨fd, F, b⟩, kp⟩ := o
  exact ⟨⟨fd, fun base tb A outer s H us vs Q hr => F base tb A outer s H us vs Q (hr.mono h), b⟩, kp⟩
theorem Tx.okS (T : Tx K mg) (i : Nat) {d : He.DefD} {x qual : Str} {st : Stmt} {at_ : Str × Option Str} {N ps : List Str} {k : Nat} {sp : List Env → Shared → List V → Hp → VK → Prop} (e : fn[i]? = some d) (ed : d = ⟨at_, x, qual, defArgs st, defBody st, defScope st, [], []⟩) (S : FnScope N ps (defScope st))
    (len : ∀ outer s vs H Q, sp outer s vs H Q → vs.length = ps.length)
    (hb : ∀ (kV doc pm : Value) (an : Option Addr) (cdv ct : Value) (us : List Value), us.length = ps.length → bindArgs (PySem.W.fnOf x qual (defArgs st) (defBody st) (defScope st) .none kV doc pm an cdv ct) ⟨us, []⟩ = pure (ps.zip us))
    (body : ∀ (base : Heap) (_ : Tb K mg base) (cdv : Value) (A : Around) (outer : List Env) (s : Shared) (H : Hp) (vs : List V) (Q : VK), Room k (A.deeper (envOfC qual (defScope st) s.heap.objs.size (He.fAd K at_) cdv)) → sp outer s vs H Q →
      ∃ t, PSs (cxOf CX0 P w K mg base N qual (defScope st) (He.fAd K at_) cdv A outer s H E0).nox (defBody st) t ∧ t { nx := fun _ H' => Q .non H', rt := Q } (start N vs) H) : OkS P w K mg at_ ps (k + 1) sp := by
  subst ed
  obtain ⟨fd, F⟩ := T.says.def_ i e
  refine ⟨⟨fd, fun base tb A outer s H us vs Q hr e0 hbi r hsp => ?_, FunD.bindsA F hb, len⟩, F.kp⟩
  obtain ⟨oc, od, dV, kV, doc, pm, an, cdv, ct, osl, rfl, lk, hcd, _, _⟩ := F.ex
  refine LamX.run_ofS lk hcd S hr e0 hbi r (len _ _ _ _ _ hsp) fun hr' => ?_
  obtain ⟨t, h1, h2⟩ := body base tb cdv A outer s H vs Q hr' hsp
  exact ⟨t, h1.nox, h2⟩
section
variable {X : Cx} {k j i : Nat} {ps : List Str} {x : Str} {p pos : Pos} {e : Expr} {es : List Expr} {t : TA} {pins : List (Addr × Obj)} {σ : L2.St} {H : Hp} {s : Shared} {us : List Value} {vs : List V} {Q : VK}
theorem run_s {sp : List Env → Shared → List V → Hp → VK → Prop} (F : OkS X.prog X.w X.K X.mg (x, none) ps j sp) (tb : Tb X.K X.mg X.base) (hr : Room k X.A) (hj : j ≤ k) (I : Inv X pins σ H s) (r : Vals vs us) (h : sp X.stack s vs H Q) :
    wpAny (model X.prog X.w) X.A (call (.ref (He.ga X.K x)) us) (EP X pins σ Q) X.xe s := by
  obtain ⟨⟨fd, G, b, len⟩, kp⟩ := F
  refine wpAny_call (codeAny_mono (G _ tb X.A X.stack s H us vs Q (hr.mono hj) I.env0 (b s us (by rw [← r.length]; exact len _ _ _ _ _ h)) r h) fun r s' hq => ?_)
  cases r with
  | error e => exact (show False from hq).elim
  | ok fl =>
    cases fl with
    | ret u => exact I.after hq
    | next => exact False.elim hq
    | brk => exact False.elim hq
    | cont => exact False.elim hq
/-- such a def called by its name -/
theorem pe_callS {sp : List Env → Shared → List V → Hp → VK → Prop} {sp' : List V → Hp → VK → Prop} (F : OkS X.prog X.w X.K X.mg (x, none) ps j sp) (tb : Tb X.K X.mg X.base) (hm : X.mg x = some (.ref (He.ga X.K x))) (hr : Room k X.A) (hg : Gl X x) (hS : ∀ pins σ H s vs Q, Inv X pins σ H s → sp' vs H Q → sp X.stack s vs H Q)
    (ha : PA X (e :: es) t) (hj : j ≤ k := by decide) (hdb : (x == ("__debug__" : Str)) = false := by decide) (he : starEach (e :: es) X.env = (false, eval e X.env) :: starEach es X.env := by rfl) (hpl : (backTo pos (starEach es X.env)).any (·.1) = false := by rfl) :
    PE X (.Call (.Name x p) (e :: es) [] pos) (fun σ H Q => t σ H fun vs H1 => sp' vs H1 Q) := by
  refine ⟨fun pins s σ H Q I h => ?_⟩
  refine wpAny_Call_Name_kw (ld_glob I hg hm ?_ hdb)
  refine PySem.W.callWith_K (h₀ := X.base) I.ok.mod.kin F.kp (thn (ha.run pos pins s σ H _ I h) fun us s1 ⟨vs, H1, I1, r, q⟩ => ⟨I1.kIn, ?_⟩) he hpl
  exact run_s F tb hr hj I1 r (hS _ _ _ _ _ _ I1 q)
/-- the handed function called: the i-th slot holds it -/
theorem pe_lamv {F : NdefX.NF} {bd : Expr} {fr : List Str} {ws : List (Option V)} {f : Addr} {sp : List V → Hp → VK → Prop} (tl : Tells X.prog X.w X.K X.mg j F bd fr ws f sp) (tb : Tb X.K X.mg X.base) (L : Lm F bd fr ws f X.outer X.s_0 X.H_0) (hx : X.ex = []) (hr : Room k X.A) (hN : X.N[i]? = some x) (hv : Vis X.env.scope x)
    (ha : PA X (e :: es) t) (hj : j ≤ k := by decide) (hdb : (x == ("__debug__" : Str)) = false := by decide) (hcd : (x == ("__classdict__" : Str)) = false := by decide) (he : starEach (e :: es) X.env = (false, eval e X.env) :: starEach es X.env := by rfl) (hpl : (backTo pos (starEach es X.env)).any (·.1) = false := by rfl) :
    PE X (.Call (.Name x p) (e :: es) [] pos) (fun σ H Q => σ[i]? = some (some (.ref f)) ∧ t σ H fun vs H1 => H1 F.c = some (LamX.CodeO F.c F.qual) ∧ sp vs H1 Q) := by
  refine ⟨fun pins s σ H Q I h => ?_⟩
  obtain ⟨hs, ht⟩ := h
  refine wpAny_Call_Name_kw (thn ((pe_var (pos := p) hN hv hdb hcd).run pins s σ H (fun v H1 => v = .ref f ∧ H1 = H) I ⟨.ref f, hs, rfl, rfl⟩) fun u s1 ⟨v, H1, I1, r1, q1⟩ => ?_)
  obtain ⟨rfl, rfl⟩ := q1
  obtain rfl : u = Value.ref f := r1
  have at_ : ∀ {σ : L2.St} {H : Hp} {s : Shared}, Inv X pins σ H s → PySem.W.FnAt f s.heap := fun I => by
    obtain ⟨pm, ctv, hf⟩ := (L.later hx I).get
    exact ⟨_, _, _, _, hf⟩
  refine PySem.W.callWith_F (first := []) (at_ I1) (thn (ha.run pos pins s1 σ _ _ I1 ht) fun us s2 ⟨vs, H2, I2, r, h1, q⟩ => ⟨at_ I2, ?_⟩) he hpl
  show wpAny _ _ (call (.ref f) us) _ _ _
  refine wpAny_call (codeAny_mono (tl _ tb X.A X.stack s2 H2 us vs Q (hr.mono hj) I2.env0 (L.later hx I2) h1 r q) fun r s' hq => ?_)
  cases r with
  | error e => exact (show False from hq).elim
  | ok fl =>
    cases fl with
    | ret u => exact I2.after hq
    | next => exact False.elim hq
    | brk => exact False.elim hq
    | cont => exact False.elim hq
end
end Pv
end
section
set_option Elab.async false
set_option linter.all false
set_option maxRecDepth 100000
set_option maxHeartbeats 2000000
namespace Pv
open PySem PySem.Spec PyProof.Rows L2 Kvg9
open L2 (Dp DpAll)
variable {P : Program} {w : World} {K : PySem.W.Frag} {mg : Str → Option Value}
/-! ### origins -/
/-- a version has the feature, and at it the value asked -/
def hasP {α : Type} [DecidableEq α] (pr : Feature → α) (n : Nat) (x : α) (v : Version) : Bool := match find v n with
  | some f => decide (pr f = x)
  | none => false
def stepO (s : Store) (p : Version → Bool) (n : Nat) : Option Nat := (s.parents n).find? fun q => p (s.version q)
def orgN (s : Store) (p : Version → Bool) : Nat → Nat → Nat
  | 0, c => c
  | k + 1, c => match stepO s p c with
    | some q => orgN s p k q
    | none => c
theorem hasP_eq {α : Type} [DecidableEq α] (pr : Feature → α) (n : Nat) (x : α) (v : Version) : ((find v n).map pr == some x) = hasP pr n x v := by
  unfold hasP
  cases find v n with
  | none => rfl
  | some f =>
    by_cases h : pr f = x
    · simp [h]
    · simp [h]
theorem origin_eq {α : Type} [DecidableEq α] {s : Store} {n : Nat} {pr : Feature → α} {x : α} : ∀ (k c : Nat), hasP pr n x (s.version c) = true → Store.origin s n pr k c = orgN s (hasP pr n x) k c
  | 0, c, _ => rfl
  | k + 1, c, h => by
    have e : (find (s.version c) n).map pr = some x := by
      have := hasP_eq pr n x (s.version c)
      rw [h] at this
      exact eq_of_beq this
    have hp : (fun p => (find (s.version p) n).map pr == some x) = fun q => hasP pr n x (s.version q) := funext fun q => hasP_eq pr n x (s.version q)
    unfold Store.origin orgN stepO
    rw [e]
    dsimp only
    rw [hp]
    cases hq : (s.parents c).find? fun q => hasP pr n x (s.version q) with
    | none => rfl
    | some q => exact origin_eq k q (by have := List.find?_some hq; exact this)
theorem stepO_lt {s : Store} {p : Version → Bool} {n q : Nat} (G : Good s) (h : stepO s p n = some q) : q < n ∧ (s.commit q).isSome = true ∧ p (s.version q) = true := by
  have h1 := List.mem_of_find?_eq_some h
  have h2 := List.find?_some h
  cases hc : s.commit n with
  | none =>
    unfold Store.parents at h1
    rw [hc] at h1
    cases h1
  | some c =>
    rw [par_of hc] at h1
    exact ⟨((G.com n c hc).low q h1).1, ((G.com n c hc).low q h1).2, h2⟩
theorem orgN_live {s : Store} {p : Version → Bool} (G : Good s) : ∀ k n, (s.commit n).isSome = true → (s.commit (orgN s p k n)).isSome = true
  | 0, n, h => h
  | k + 1, n, h => by
    unfold orgN
    cases e : stepO s p n with
    | none => exact h
    | some q => exact orgN_live G k q (stepO_lt G e).2.1
theorem orgN_stop {s : Store} {p : Version → Bool} {n : Nat} (h : stepO s p n = none) : ∀ k, orgN s p k n = n
  | 0 => rfl
  | k + 1 => by unfold orgN; rw [h]
theorem orgN_some {s : Store} {p : Version → Bool} {n q : Nat} (h : stepO s p n = some q) (k : Nat) : orgN s p (k + 1) n = orgN s p k q := by
  show (match stepO s p n with
    | some q => orgN s p k q
    | none => n) = _
  rw [h]
/-- a test of one version, told by the handed function -/
def spTell (K : PySem.W.Frag) (ac : Nat) (J : Hp → Prop) (p : Version → Bool) : List V → Hp → VK → Prop := fun vs H Q => ∃ (d : Addr) (v : Version), vs = [.ref d] ∧ VerAt K H d v ∧ VOk ac v ∧ J H ∧ Q (.bl (p v)) H
def spHasA (K : PySem.W.Frag) : Sp := fun vs H Q _ => ∃ (d : Addr) (v : Version) (ac n i : Nat) (x : Int), vs = [.ref d, vN n, vN i, .int x] ∧ VerAt K H d v ∧ VOk ac v ∧ i < ac ∧ ac ≤ 8 ∧ Q (.bl (hasP (fun f => f.attributes.getD i 0) n x v)) H
def spHasV (K : PySem.W.Frag) : Sp := fun vs H Q _ => ∃ (d t : Addr) (v : Version) (ac n : Nat) (vx : List (Int × Int)) (xs : List V), vs = [.ref d, vN n, .ref t] ∧ VerAt K H d v ∧ VOk ac v ∧ SqT K H t xs ∧ DpAll K H xs (vx.map dV) ∧ Q (.bl (hasP Feature.vertices n vx v)) H
theorem sc_has_attribute : FnScope ["version", "feature_id", "index", "value"] ["version", "feature_id", "index", "value"] (defScope s_has_attribute) := ⟨rfl, rfl, rfl, by decide +kernel, rfl, by decide +kernel, by decide +kernel⟩
theorem ok_has_attribute (T : Tx K mg) : Ok P w K mg ("has_attribute", none) ["version", "feature_id", "index", "value"] 1 (spHasA K) := by
  refine T.ok (i := 73) (d := d_has_attribute) rfl rfl sc_has_attribute (fun vs H Q E h => ?_) (fun _ _ _ _ _ _ us hl => match us, hl with | [_, _, _, _], _ => rfl) (fun base tb cdv A outer s H vs Q E hr h => ?_)
  · obtain ⟨d, v, ac, n, i, x, rfl, _⟩ := h
    rfl
  · obtain ⟨d, v, ac, n, i, x, rfl, ⟨kv, hd, D⟩, vo, hi, ha, k⟩ := h
    have hu := hu_of hr
    refine ⟨_, (pss_one (ps_ret (pe_and (pe_cmp (pc_din hu (pv 1) (pv 0)) rfl) (pe_one (pe_cmpR op_eq (pe_ix (kIxT (K := K) rfl) (pe_ix (kIxT (K := K) rfl) (pe_dget hu (pv 0) (pv 1) (fun _ _ => rfl)) pe_int (fun _ _ => rfl)) (pv 2) (fun _ _ => rfl)) (pv 3) (nomark _)))))), ?_⟩
    refine ⟨_, rfl, _, rfl, d, _, rfl, DGet.k (k := kI n) hd, _, rfl, ?_⟩
    unfold hasP at k
    cases hf : find v n with
    | none =>
      rw [D.none hf]
      rw [hf] at k
      exact itF rfl k
    | some f =>
      obtain ⟨u, e1, e2⟩ := D.some hf
      rw [hf] at k
      rw [e1]
      refine itT rfl ?_
      have fo := vo.all f (find_mem hf).1
      obtain ⟨b, p, q, us, rfl, t3, t4, _, _⟩ := Fea.parts e2
      have gd := DGet.k (k := kI n) hd
      rw [e1] at gd
      obtain ⟨old, ho⟩ : ∃ o, f.attributes[i]? = some o := ⟨_, List.getElem?_eq_getElem (by rw [fo.al]; exact hi)⟩
      refine ⟨_, rfl, _, rfl, d, _, rfl, gd, b, _, _, _, rfl, rfl, t3, atI_nat (j := 0) rfl, _, rfl, p, _, _, _, rfl, rfl, t4, atI_nat (j := i) (by rw [List.getElem?_map, ho]; rfl), _, rfl, ?_⟩
      have hg : f.attributes.getD i 0 = old := by rw [List.getD_eq_getElem?_getD, ho]; rfl
      have hiff : f.attributes.getD i 0 = x ↔ V.int old = V.int x := by rw [hg, V.int.injEq]
      have k2 : Q (V.bl (decide (f.attributes.getD i 0 = x))) H := k
      exact ⟨rfl, Eq.mp (congrArg (fun b => Q (V.bl b) H) (decide_eq_decide.mpr hiff)) k2⟩
theorem sc_has_vertices : FnScope ["version", "feature_id", "vertices"] ["version", "feature_id", "vertices"] (defScope s_has_vertices) := ⟨rfl, rfl, rfl, by decide +kernel, rfl, by decide +kernel, by decide +kernel⟩
theorem ok_has_vertices (T : Tx K mg) : Ok P w K mg ("has_vertices", none) ["version", "feature_id", "vertices"] 1 (spHasV K) := by
  refine T.ok (i := 74) (d := d_has_vertices) rfl rfl sc_has_vertices (fun vs H Q E h => ?_) (fun _ _ _ _ _ _ us hl => match us, hl with | [_, _, _], _ => rfl) (fun base tb cdv A outer s H vs Q E hr h => ?_)
  · obtain ⟨d, t, v, ac, n, vx, xs, rfl, _⟩ := h
    rfl
  · obtain ⟨d, t, v, ac, n, vx, xs, rfl, ⟨kv, hd, D⟩, vo, ht, hx, k⟩ := h
    have hu := hu_of hr
    have hu64 := hr.units
    refine ⟨_, (pss_one (ps_ret (pe_and (pe_cmp (pc_din hu (pv 1) (pv 0)) rfl) (pe_one (pe_cmpR (kEqD (K := K) rfl hu64) (pe_ix (kIxT (K := K) rfl) (pe_dget hu (pv 0) (pv 1) (fun _ _ => rfl)) pe_int (fun _ _ => rfl)) (pv 2) (nomark _)))))), ?_⟩
    refine ⟨_, rfl, _, rfl, d, _, rfl, DGet.k (k := kI n) hd, _, rfl, ?_⟩
    unfold hasP at k
    cases hf : find v n with
    | none =>
      rw [D.none hf]
      rw [hf] at k
      exact itF rfl k
    | some f =>
      obtain ⟨u, e1, e2⟩ := D.some hf
      rw [hf] at k
      rw [e1]
      refine itT rfl ?_
      obtain ⟨b, p, q, us, rfl, t3, t4, t5, t6⟩ := Fea.parts e2
      have gd := DGet.k (k := kI n) hd
      rw [e1] at gd
      refine ⟨_, rfl, _, rfl, d, _, rfl, gd, b, _, _, _, rfl, rfl, t3, atI_nat (j := 1) rfl, _, rfl, .tuple (f.vertices.map dV), .tuple (vx.map dV), .tup t5 t6, .tup ht hx, enc_verts.sh _, enc_verts.sh _, ?_⟩
      rw [show PyData.eqv (.tuple (f.vertices.map dV)) (.tuple (vx.map dV)) = decide (f.vertices = vx) from enc_verts.eqd _ _]
      exact k
/-- the handed function f, a test of versions, as a def that is handed it finds it -/
structure Hand (P : Program) (w : World) (K : PySem.W.Frag) (mg : Str → Option Value) (f : Addr) (ac : Nat) (J : Hp → Prop) (p : Version → Bool) (F : NdefX.NF) (bd : Expr) (fr : List Str) (ws : List (Option V)) (outer : List Env) (st : Shared) (H : Hp) : Prop where
  tl : Tells P w K mg 2 F bd fr ws f (spTell K ac J p)
  lm : Lm F bd fr ws f outer st H
  co : H F.c = some (LamX.CodeO F.c F.qual)
  jo : J H
def spFirst (P : Program) (w : World) (K : PySem.W.Frag) (mg : Str → Option Value) : List Env → Shared → List V → Hp → VK → Prop := fun outer st vs H Q => ∃ (f : Addr) (J : Hp → Prop) (p : Version → Bool) (F : NdefX.NF) (bd : Expr) (fr : List Str) (ws : List (Option V)) (d : Addr) (kc : List (Key × V)) (s : Store) (av : List Addr) (n : Nat),
  vs = [.ref d, vN n, .ref f] ∧ Hand P w K mg f s.attributeCount J p F bd fr ws outer st H ∧ H d = some (.dK kc) ∧ ComD K H av kc s ∧ Good s ∧ (s.commit n).isSome = true ∧ Q (match stepO s p n with | some q => vN q | none => .non) H
theorem sc_first_parent_with : FnScope ["commits", "number", "has_value", "parent"] ["commits", "number", "has_value"] (defScope s_first_parent_with) := ⟨rfl, rfl, rfl, by decide +kernel, rfl, by decide +kernel, by decide +kernel⟩
theorem ok_first_parent_with (T : Tx K mg) : OkS P w K mg ("first_parent_with", none) ["commits", "number", "has_value"] 3 (spFirst P w K mg) := by
  refine T.okS (i := 6) (d := d_first_parent_with) rfl rfl sc_first_parent_with (fun outer s vs H Q h => ?_) (fun _ _ _ _ _ _ us hl => match us, hl with | [_, _, _], _ => rfl) (fun base tb cdv A outer st H vs Q hr h => ?_)
  · obtain ⟨f, J, p, F, bd, fr, ws, d, kc, s, av, n, rfl, _⟩ := h
    rfl
  · obtain ⟨f, J, p, F, bd, fr, ws, d, kc, s, av, n, rfl, Ha, h2, C, G, hn, k⟩ := h
    have hu := hu_of hr
    refine ⟨_, (pss_cons (ps_for PassesOwn.never rfl (kPiL (K := K) rfl (pe_fld (pe_dget hu (pv 0) (pv 1) (fun _ _ => rfl)) rfl)) (pg_name (i := 3) sc_first_parent_with.nd rfl (by first | exact Or.inl rfl | exact Or.inr rfl))
      (pss_one (ps_if (pt_val (pe_lamv (i := 2) Ha.tl tb Ha.lm rfl hr rfl (Or.inl rfl) (pa_cons (pe_fld (pe_dget hu (pv 0) (pv 3) (fun _ _ => rfl)) rfl) pa_nil)))
      (pss_one (ps_ret (pv 3))) pss_nil)))
    (pss_one (ps_ret pe_non))), ?_⟩
    obtain ⟨cm, hc⟩ := Option.isSome_iff_exists.mp hn
    obtain ⟨c, e1, e2⟩ := C.at_ _ _ hc
    obtain ⟨dy, gs, q, dv, g1, g2, g3, g4, g5, g6, g7, g8, g9⟩ := e2.ex
    have gd := DGet.k (k := kI n) h2
    rw [e1] at gd
    have ep := par_of hc
    unfold stepO at k
    rw [ep] at k
    refine ⟨_, rfl, _, rfl, d, .ref c, rfl, gd, c, _, _, _, _, rfl, g1, (T.cls 139), (T.noat 142), g2, q, rfl, ⟨_, SqL.of g5⟩, ?_⟩
    refine for_list (K := K) (a := q) (xs := cm.parents.map vN) (fun i σ H4 => (∃ v3 : Option V, σ = [some (.ref d), some (vN n), some (.ref f), v3] ∧ H4 = H) ∧ (cm.parents.take i).find? (fun q => p (s.version q)) = none) ⟨⟨none, rfl, rfl⟩, rfl⟩ (fun i σ H4 _ h => by obtain ⟨⟨_, _, rfl⟩, _⟩ := h; exact SqL.of g5) ?_ ?_
    · rintro i x σ H4 hi ⟨⟨v3, rfl, rfl⟩, hno⟩
      obtain ⟨r, e, rfl⟩ := nth_map hi
      have hr1 := (G.com n cm hc).low r (List.mem_of_getElem? e)
      obtain ⟨cq, hcq⟩ := Option.isSome_iff_exists.mp hr1.2
      obtain ⟨c', e1', e2'⟩ := C.at_ _ _ hcq
      obtain ⟨dy', gs', q', dv', k1, k2, k3, k4, k5, k6, k7, k8, k9⟩ := e2'.ex
      have gd' := DGet.k (k := kI r) h2
      rw [e1'] at gd'
      refine ⟨rfl, _, rfl, _, rfl, d, .ref c', rfl, gd', c', _, _, _, _, rfl, k1, (T.cls 139), (T.noat 143), k3, Ha.co, dv', cq.version, rfl, k6, (G.com r cq hcq).ver, Ha.jo, p cq.version, rfl, ?_⟩
      have ev := ver_of hcq
      cases hp : p cq.version with
      | true =>
        refine itT rfl ?_
        have : cm.parents.find? (fun q => p (s.version q)) = some r := by
          have h0 : (cm.parents.take (i + 1)).find? (fun q => p (s.version q)) = some r := by
            rw [take_snoc e, List.find?_append, hno, List.find?_cons]
            rw [show p (s.version r) = true by rw [ev, hp]]
            rfl
          rw [← List.take_append_drop (i + 1) cm.parents, List.find?_append, h0]
          rfl
        rw [this] at k
        exact ⟨_, rfl, k⟩
      | false =>
        refine itF rfl ?_
        refine ⟨⟨some (vN r), rfl, rfl⟩, ?_⟩
        rw [take_snoc e, List.find?_append, hno, List.find?_cons, show p (s.version r) = false by rw [ev, hp]]
        rfl
    · rintro σ H4 ⟨⟨v3, rfl, rfl⟩, hno⟩
      rw [List.length_map, List.take_length] at hno
      rw [hno] at k
      exact k
def spOrigin (P : Program) (w : World) (K : PySem.W.Frag) (mg : Str → Option Value) : List Env → Shared → List V → Hp → VK → Prop := fun outer st vs H Q => ∃ (f : Addr) (J : Hp → Prop) (p : Version → Bool) (F : NdefX.NF) (bd : Expr) (fr : List Str) (ws : List (Option V)) (d : Addr) (kc : List (Key × V)) (s : Store) (av : List Addr) (n : Nat),
  vs = [.ref d, vN n, .ref f] ∧ Hand P w K mg f s.attributeCount J p F bd fr ws outer st H ∧ H d = some (.dK kc) ∧ ComD K H av kc s ∧ Good s ∧ (s.commit n).isSome = true ∧ Q (vN (orgN s p s.commits.length n)) H
theorem sc_origin : FnScope ["commits", "number", "has_value", "found", "parent"] ["commits", "number", "has_value"] (defScope s_origin) := ⟨rfl, rfl, rfl, by decide +kernel, rfl, by decide +kernel, by decide +kernel⟩
theorem ok_origin (T : Tx K mg) : OkS P w K mg ("origin", none) ["commits", "number", "has_value"] 4 (spOrigin P w K mg) := by
  refine T.okS (i := 5) (d := d_origin) rfl rfl sc_origin (fun outer s vs H Q h => ?_) (fun _ _ _ _ _ _ us hl => match us, hl with | [_, _, _], _ => rfl) (fun base tb cdv A outer st H vs Q hr h => ?_)
  · obtain ⟨f, J, p, F, bd, fr, ws, d, kc, s, av, n, rfl, _⟩ := h
    rfl
  · obtain ⟨f, J, p, F, bd, fr, ws, d, kc, s, av, n, rfl, Ha, h2, C, G, hn, k⟩ := h
    have hu := hu_of hr
    let sp' : List V → Hp → VK → Prop := fun vs H Q => ∃ n : Nat, vs = [.ref d, vN n, .ref f] ∧ H F.c = some (LamX.CodeO F.c F.qual) ∧ J H ∧ H d = some (.dK kc) ∧ ComD K H av kc s ∧ (s.commit n).isSome = true ∧ Q (match stepO s p n with | some q => vN q | none => .non) H
    have hS : ∀ pins σ H1 s1 vs Q1, Inv (cxOf CX0 P w K mg base ["commits", "number", "has_value", "found", "parent"] "origin" (defScope s_origin) (He.fAd K ("origin", none)) cdv A outer st H E0).nox pins σ H1 s1 → sp' vs H1 Q1 → spFirst P w K mg (cxOf CX0 P w K mg base ["commits", "number", "has_value", "found", "parent"] "origin" (defScope s_origin) (He.fAd K ("origin", none)) cdv A outer st H E0).nox.stack s1 vs H1 Q1 := by
      rintro pins σ H1 s1 vs Q1 I ⟨n, rfl, q1, q0, q2, q3, q4, q5⟩
      exact ⟨f, J, p, F, bd, fr, ws, d, kc, s, av, n, rfl, ⟨Ha.tl, Ha.lm.later (X := (cxOf CX0 P w K mg base ["commits", "number", "has_value", "found", "parent"] "origin" (defScope s_origin) (He.fAd K ("origin", none)) cdv A outer st H E0).nox) rfl I, q1, q0⟩, q2, q3, G, q4, q5⟩
    refine ⟨_, (pss_cons (ps_set (i := 3) sc_origin.nd rfl (by first | exact Or.inl rfl | exact Or.inr rfl) (pv 1))
    (pss_cons (ps_set (i := 4) sc_origin.nd rfl (by first | exact Or.inl rfl | exact Or.inr rfl) (pe_callS (ok_first_parent_with T) tb (T.glo 6) hr rfl hS (pa_cons (pv 0) (pa_cons (pv 3) (pa_cons (pv 2) pa_nil)))))
    (pss_cons (ps_while PassesOwn.never (pt_cmpR op_notN (pv 4) pe_non (nomark _))
      (pss_cons (ps_set (i := 3) sc_origin.nd rfl (by first | exact Or.inl rfl | exact Or.inr rfl) (pv 4))
    (pss_one (ps_set (i := 4) sc_origin.nd rfl (by first | exact Or.inl rfl | exact Or.inr rfl) (pe_callS (ok_first_parent_with T) tb (T.glo 6) hr rfl hS (pa_cons (pv 0) (pa_cons (pv 3) (pa_cons (pv 2) pa_nil))))))))
    (pss_one (ps_ret (pv 3)))))), ?_⟩
    refine ⟨_, rfl, _, rfl, _, rfl, _, rfl, n, rfl, Ha.co, Ha.jo, h2, C, hn, ?_⟩
    refine ⟨fun m σ H3 => ∃ c : Nat, H3 = H ∧ σ = [some (.ref d), some (vN n), some (.ref f), some (vN c), some (match stepO s p c with | some q => vN q | none => .non)] ∧ (s.commit c).isSome = true ∧ orgN s p m c = orgN s p s.commits.length n ∧ c ≤ m, ?_, ?_⟩
    · obtain ⟨cm, hc⟩ := Option.isSome_iff_exists.mp hn
      exact ⟨s.commits.length, n, rfl, rfl, hn, rfl, Nat.le_of_lt (commit_lt hc)⟩
    · rintro m σ H3 ⟨c, rfl, rfl, hc, eo, le⟩
      cases e : stepO s p c with
      | none =>
        rw [orgN_stop e] at eo
        rw [← eo] at k
        exact ⟨_, rfl, rfl, _, rfl, itF rfl ⟨_, rfl, k⟩⟩
      | some q =>
        obtain ⟨h1, h3, h4⟩ := stepO_lt G e
        refine ⟨_, rfl, rfl, _, rfl, itT rfl ?_⟩
        cases m with
        | zero => omega
        | succ m =>
          rw [orgN_some e] at eo
          exact ⟨_, fun _ _ h => h, _, rfl, _, rfl, _, rfl, _, rfl, q, rfl, Ha.co, Ha.jo, h2, C, h3, m, Nat.lt_succ_self m, q, rfl, rfl, h3, eo, by omega⟩
end Pv
end
section
set_option Elab.async false
set_option linter.all false
set_option maxRecDepth 100000
set_option maxHeartbeats 2000000
namespace Pv
open PySem PySem.Spec PyProof.Rows L2 Kvg9
open L2 (Dp DpAll)
variable {P : Program} {w : World} {K : PySem.W.Frag} {mg : Str → Option Value}
/-- as Tx.ok; told, too: where the def's code lies -/
theorem Tx.okC (T : Tx K mg) (i : Nat) {d : He.DefD} {x qual : Str} {st : Stmt} {at_ : Str × Option Str} {N ps : List Str} {k : Nat} {sp : Sp} (e : fn[i]? = some d) (ed : d = ⟨at_, x, qual, defArgs st, defBody st, defScope st, [], []⟩) (S : FnScope N ps (defScope st))
    (len : ∀ vs H Q E, sp vs H Q E → vs.length = ps.length)
    (hb : ∀ (kV doc pm : Value) (an : Option Addr) (cdv ct : Value) (us : List Value), us.length = ps.length → bindArgs (PySem.W.fnOf x qual (defArgs st) (defBody st) (defScope st) .none kV doc pm an cdv ct) ⟨us, []⟩ = pure (ps.zip us))
    (body : ∀ (base : Heap) (_ : Tb K mg base) (A : Around) (outer : List Env) (s : Shared) (H : Hp) (vs : List V) (Q : VK) (E : XK), Room k (A.deeper (envOfC qual (defScope st) s.heap.objs.size (He.fAd K at_) (.ref (He.cT K at_).1))) → sp vs H Q E →
      ∃ t, PSs (cxOf CX0 P w K mg base N qual (defScope st) (He.fAd K at_) (.ref (He.cT K at_).1) A outer s H E).nox (defBody st) t ∧ t { nx := fun _ H' => Q .non H', rt := Q } (start N vs) H) : Ok P w K mg at_ ps (k + 1) sp := by
  subst ed
  obtain ⟨fd, F⟩ := T.says.def_ i e
  refine ⟨⟨fd, fun base tb => ?_, FunD.bindsA F hb⟩, F.kp⟩
  obtain ⟨oc, od, dV, kV, doc, pm, an, cdv, ct, osl, rfl, lk, hcd, _, _⟩ := F.ex
  obtain ⟨c, rfl⟩ := He.codeIn_ref hcd
  have ec : c = (He.cT K at_).1 := (He.codeOf_eq lk rfl).symm
  subst ec
  refine fn_of lk hcd S len fun A outer s H vs Q E hr hsp => ?_
  obtain ⟨t, h1, h2⟩ := body base tb A outer s H vs Q E hr hsp
  exact ⟨t, h1.nox, h2⟩
section
variable {X : Cx} {k j : Nat} {ps fr : List Str} {js : List Nat} {x : Str} {p pos lpos : Pos} {e1 e2 : Expr} {t1 t2 : TE} {params : Arguments} {body : Expr} {scope : Scope} {c Pt : Addr} {TT : List (Addr × Str)}
/-- the function that the lambda makes -/
abbrev lamF (X : Cx) (params : Arguments) (scope : Scope) (c' : Addr) : NdefX.NF := ⟨"<lambda>", X.env.qual ++ "<lambda>", params, [], scope, cloFrom X.env.cells scope.names [], c'⟩
/-- x(e1, e2, lambda ..: body) -/
theorem pe_lam3 {sp : List Env → Shared → List V → Hp → VK → Prop} {sp' : L2.St → Addr → Addr → V → V → Hp → VK → Prop} (F : OkS X.prog X.w X.K X.mg (x, none) ps j sp) (tb : Tb X.K X.mg X.base) (hm : X.mg x = some (.ref (He.ga X.K x))) (hr : Room k X.A) (hg : Gl X x)
    (TB : LamX.TabB X.base X.mg c Pt) (hcode : X.env.code = .ref c) (hmT : (Pt, X.env.qual ++ "<lambda>") ∈ TT) (hu : ∀ p ∈ TT, p.1 = Pt → p.2 = X.env.qual ++ "<lambda>") (hdef : defaultsOf params X.env = ([], [])) (hfn : ∀ y, X.fn y = true)
    (hfree : ∀ y ∈ scope.names, y.2 = .free → X.env.scope.names.lookup y.1 = some .cell ∨ X.env.scope.names.lookup y.1 = some .free) (hfr : ∀ y ∈ fr, (y, NameKind.free) ∈ scope.names) (hjs : js.map (fun j => X.N[j]?) = fr.map some)
    (hS : ∀ pins σ H s f c' v1 v2 Q, Inv X pins σ H s → Lm (lamF X params scope c') body fr (js.map (NdefX.slotAt σ)) f X.stack s H → H c' = some (LamX.CodeO c' (X.env.qual ++ "<lambda>")) → sp' σ f c' v1 v2 H Q → sp X.stack s [v1, v2, .ref f] H Q)
    (ha : PE X e1 t1) (hb : PE X e2 t2) (hj : j ≤ k := by decide) (hdb : (x == ("__debug__" : Str)) = false := by decide)
    (he1 : starEach [e1, e2, .Lambda params body scope lpos] X.env = (false, eval e1 X.env) :: starEach [e2, .Lambda params body scope lpos] X.env := by rfl) (he2 : starEach [e2, .Lambda params body scope lpos] X.env = (false, eval e2 X.env) :: starEach [.Lambda params body scope lpos] X.env := by rfl) :
    PE X (.Call (.Name x p) [e1, e2, .Lambda params body scope lpos] [] pos) (fun σ H Q => t1 σ H fun v1 H1 => t2 σ H1 fun v2 H2 => LamX.Tabs TT H2 ∧ ∀ f c' H3, LamX.ExtN H2 H3 → LamX.Tabs TT H3 → (∀ b ps, X.H_0 b = some (.tbl ps) → ∃ more, H3 b = some (.tbl (ps ++ more))) → sp' σ f c' v1 v2 H3 Q) := by
  refine ⟨fun pins s σ H Q I h => ?_⟩
  have hf : ∀ y ∈ scope.names, y.2 = .free → ∃ c, X.env.cells.lookup y.1 = some c := fun y hy e => (hfree y hy e).elim (fun z => I.ok.has _ (.inl z)) fun z => I.ok.has _ (.inr z)
  refine wpAny_Call_Name_kw (ld_glob I hg hm ?_ hdb)
  refine PySem.W.callWith_K (h₀ := X.base) I.ok.mod.kin F.kp ?_ he1 (by rw [he2]; rfl)
  · rw [he1, he2]
    show wpAny _ _ (spliced ((false, eval e1 X.env) :: (false, eval e2 X.env) :: (false, eval (.Lambda params body scope lpos) X.env) :: backTo pos (starEach [] X.env))) _ _ s
    refine Calls.spliced_cons (thn (ha.run pins s σ H _ I h) fun u1 s1 ⟨v1, H1, I1, r1, q1⟩ => ?_)
    refine Calls.spliced_cons (thn (hb.run pins s1 σ H1 _ I1 q1) fun u2 s2 ⟨v2, H2, I2, r2, q2⟩ => ?_)
    obtain ⟨hT, q2⟩ := q2
    refine Calls.spliced_cons (LamX.lam_make2 I2 TB hcode hmT hu hT hdef hf fun f c' pm ctv H3 s3 I3 eN T3 hff hfn' hfr' hco => ?_)
    refine Calls.spliced_nil ⟨I3.kIn, ?_⟩
    have cl := NdefX.cells_of I3 (NdefX.Caps.made (fr := fr) (js := js) I3.ok hfree hfr hjs)
    have L : Lm (lamF X params scope c') body fr (js.map (NdefX.slotAt σ)) f X.stack s3 H3 := by
      refine ⟨⟨pm, ctv, hff⟩, hfn', hfr', cl, fun y cc e z => ?_⟩
      have e := NdefX.clo_cm hf e
      rcases List.mem_cons.mp (I3.stkSub cc z) with q | q
      · exact I3.cne y cc e q
      · obtain ⟨_, o, ho, _⟩ := I3.ok.funs.mem q
        exact absurd (Nat.lt_of_lt_of_le (Heap.lt_size ho) (I3.ok.cab y cc (hfn y) e)) (Nat.lt_irrefl _)
    exact run_s F tb hr hj I3 (show Vals [v1, v2, V.ref f] [u1, u2, Value.ref f] from .cons r1 (.cons r2 (.cons rfl .nil))) (hS _ _ _ _ _ _ _ _ _ I3 L hco (q2 f c' H3 eN T3 I3.base.tbls))
end
end Pv
end
section
set_option Elab.async false
set_option linter.all false
set_option maxRecDepth 100000
set_option maxHeartbeats 2000000
namespace Pv
open PySem PySem.Spec PyProof.Rows L2 Kvg9
open L2 (Dp DpAll)
variable {P : Program} {w : World} {K : PySem.W.Frag} {mg : Str → Option Value}
/-! ### the two lambdas of the text -/
def retE : Stmt → Expr
  | .Return (some e) _ => e
  | _ => .Constant .none 0 ⟨0, 0, 0, 0⟩
def lamArg : Expr → Expr
  | .List (.Call _ (_ :: _ :: l :: _) _ _ :: _) _ => l
  | e => e
def lamOf (st : Stmt) : Expr := lamArg (retE ((defBody st).getLastD st))
def lamB : Expr → Expr
  | .Lambda _ b _ _ => b
  | e => e
def lamP : Expr → Arguments
  | .Lambda a _ _ _ => a
  | _ => defArgs (.Pass ⟨0, 0, 0, 0⟩)
def lamS : Expr → Scope
  | .Lambda _ _ s _ => s
  | _ => defScope (.Pass ⟨0, 0, 0, 0⟩)
abbrev lA : Expr := lamOf s_origin_of_attribute
abbrev lV : Expr := lamOf s_origin_of_vertices
theorem sc_lA : NdefX.NScope ["other", "feature_id", "index", "value"] ["other"] ["feature_id", "index", "value"] (lamS lA) := NdefX.nscope_by (by decide +kernel)
theorem sc_lV : NdefX.NScope ["other", "feature_id", "vertices"] ["other"] ["feature_id", "vertices"] (lamS lV) := NdefX.nscope_by (by decide +kernel)
theorem tell_attr (T : Tx K mg) {cl : List (Str × Addr)} {c' f : Addr} {q : Str} {n i ac : Nat} {x : Int} (hi : i < ac) (ha : ac ≤ 8) :
    Tells P w K mg 2 ⟨"<lambda>", q, lamP lA, [], lamS lA, cl, c'⟩ (lamB lA) ["feature_id", "index", "value"] [some (vN n), some (vN i), some (.int x)] f (spTell K ac (fun _ => True) (hasP (fun f => f.attributes.getD i 0) n x)) := by
  refine tells_of sc_lA (fun _ _ us hl => match us, hl with | [_], _ => rfl) (fun vs H Q h => ?_) (fun base tb A outer s H vs Q hr h => ?_)
  · obtain ⟨d, v, rfl, _⟩ := h
    rfl
  · obtain ⟨d, v, rfl, h1, h2, _, k⟩ := h
    refine ⟨_, pe_callO (ok_has_attribute T) tb (T.glo 73) hr rfl (pa_cons (pv 0) (pa_cons (pv 1) (pa_cons (pv 2) (pa_cons (pv 3) pa_nil)))), ?_⟩
    exact ⟨_, rfl, _, rfl, _, rfl, _, rfl, d, v, ac, n, i, x, rfl, h1, h2, hi, ha, k⟩
theorem tell_vert (T : Tx K mg) {cl : List (Str × Addr)} {c' f t : Addr} {q : Str} {n ac : Nat} {xs : List V} {vx : List (Int × Int)} :
    Tells P w K mg 2 ⟨"<lambda>", q, lamP lV, [], lamS lV, cl, c'⟩ (lamB lV) ["feature_id", "vertices"] [some (vN n), some (.ref t)] f (spTell K ac (fun H => SqT K H t xs ∧ DpAll K H xs (vx.map dV)) (hasP Feature.vertices n vx)) := by
  refine tells_of sc_lV (fun _ _ us hl => match us, hl with | [_], _ => rfl) (fun vs H Q h => ?_) (fun base tb A outer s H vs Q hr h => ?_)
  · obtain ⟨d, v, rfl, _⟩ := h
    rfl
  · obtain ⟨d, v, rfl, h1, h2, ⟨h3, h4⟩, k⟩ := h
    refine ⟨_, pe_callO (ok_has_vertices T) tb (T.glo 74) hr rfl (pa_cons (pv 0) (pa_cons (pv 1) (pa_cons (pv 2) pa_nil))), ?_⟩
    exact ⟨_, rfl, _, rfl, _, rfl, d, t, v, ac, n, vx, xs, rfl, h1, h2, h3, h4, k⟩
end Pv
end
section
set_option Elab.async false
set_option linter.all false
set_option maxRecDepth 100000
set_option maxHeartbeats 2000000
namespace Pv
open PySem PySem.Spec PyProof.Rows L2 Kvg9
open L2 (Dp DpAll)
variable {P : Program} {w : World} {K : PySem.W.Frag} {mg : Str → Option Value}
theorem tup_extN {H H' : Hp} (e : LamX.ExtN H H') : Tup H H' := fun b o h t => e b o h fun ps z => by rw [z] at t; cases t
theorem StoreG.keepN {H H' : Hp} {a : Addr} {s : Store} {m : Mu} {av : List Addr} (e : LamX.ExtN H H') (S : StoreG K H a s m av) : StoreG K H' a s m av := by
  obtain ⟨⟨dx, fs, h1, F⟩, ⟨kc, h2, C⟩, ⟨kb, h3, B⟩, ⟨kt, h4, T⟩, ⟨kw, h5, W⟩, A⟩ := S
  exact ⟨⟨dx, fs, e _ _ h1 (fun _ z => by cases z), F⟩, ⟨kc, e _ _ h2 (fun _ z => by cases z), C.keep (fun b o q _ n => e b o q n) (tup_extN e)⟩, ⟨kb, e _ _ h3 (fun _ z => by cases z), B⟩, ⟨kt, e _ _ h4 (fun _ z => by cases z), T⟩, ⟨kw, e _ _ h5 (fun _ z => by cases z), W.tup (tup_extN e)⟩, A⟩
def tT (K : PySem.W.Frag) : List (Addr × Str) := tf.map fun p => ((He.cT K p).2, lamQ p.1)
theorem tabs_iff {H : Hp} : LamX.Tabs (tT K) H ↔ Tabs K H := by
  unfold LamX.Tabs Tabs tT
  simp only [List.mem_map]
  exact ⟨fun h p hp => h _ ⟨p, hp, rfl⟩, fun h q ⟨p, hp, e⟩ => by rw [← e]; exact h p hp⟩
theorem FrT.extN {H H' : Hp} {a : Addr} {m : Mu} (e : LamX.ExtN H H') (t : ∀ b ps, H b = some (.tbl ps) → ∃ more, H' b = some (.tbl (ps ++ more))) : FrT H a m H' m := by
  refine ⟨fun b o h _ n => e b o h n, fun _ h => .inl h, fun b h => ?_⟩
  cases hb : H b with
  | none => rfl
  | some o =>
    exfalso
    by_cases q : ∃ ps, o = .tbl ps
    · obtain ⟨ps, rfl⟩ := q
      obtain ⟨more, e2⟩ := t b ps hb
      rw [h] at e2; cases e2
    · have := e b o hb fun ps z => q ⟨ps, z⟩
      rw [h] at this; cases this
theorem tt_uA (T : Tx K mg) : ∀ p ∈ tT K, p.1 = (He.cT K ("origin_of_attribute", none)).2 → p.2 = lamQ "origin_of_attribute" := by
  intro p hp e
  obtain ⟨q, hq, rfl⟩ := List.mem_map.mp hp
  have : q = (("origin_of_attribute", none) : Str × Option Str) ∨ q = (("origin_of_vertices", none) : Str × Option Str) := by simpa [tf] using hq
  rcases this with rfl | rfl
  · rfl
  · exact absurd e.symm T.apartT
theorem tt_uV (T : Tx K mg) : ∀ p ∈ tT K, p.1 = (He.cT K ("origin_of_vertices", none)).2 → p.2 = lamQ "origin_of_vertices" := by
  intro p hp e
  obtain ⟨q, hq, rfl⟩ := List.mem_map.mp hp
  have : q = (("origin_of_attribute", none) : Str × Option Str) ∨ q = (("origin_of_vertices", none) : Str × Option Str) := by simpa [tf] using hq
  rcases this with rfl | rfl
  · exact absurd e T.apartT
  · rfl
theorem sc_origin_of_attribute : FnScope ["store", "given", "feature_id", "index", "version", "value"] ["store", "given"] (defScope s_origin_of_attribute) := ⟨rfl, rfl, rfl, by decide +kernel, rfl, by decide +kernel, by decide +kernel⟩
theorem sc_origin_of_vertices : FnScope ["store", "given", "feature_id", "version", "vertices"] ["store", "given"] (defScope s_origin_of_vertices) := ⟨rfl, rfl, rfl, by decide +kernel, rfl, by decide +kernel, by decide +kernel⟩
theorem origin_none {s : Store} {i n : Nat} (h : find (s.version s.head) n = none) : s.run (.originOfAttribute n i) = (s, .error (-2)) := by
  show (match find (s.version s.head) n with
    | none => (s, Response.error (-2))
    | some f => if f.attributes.length ≤ i then (s, Response.error (-2)) else (s, Response.number (s.origin n (fun g => g.attributes.getD i 0) s.commits.length s.head))) = _
  rw [h]
theorem origin_some {s : Store} {i n : Nat} {f : Feature} (h : find (s.version s.head) n = some f) : s.run (.originOfAttribute n i) = if f.attributes.length ≤ i then (s, .error (-2)) else (s, .number (s.origin n (fun g => g.attributes.getD i 0) s.commits.length s.head)) := by
  show (match find (s.version s.head) n with
    | none => (s, Response.error (-2))
    | some f => if f.attributes.length ≤ i then (s, Response.error (-2)) else (s, Response.number (s.origin n (fun g => g.attributes.getD i 0) s.commits.length s.head))) = _
  rw [h]
theorem extN_done {H H3 : Hp} {a p : Addr} {s : Store} {m : Mu} {Q : VK} {l : List Int} (S : StoreAt K H a s m) (t3 : Tabs K H3) (e : LamX.ExtN H H3) (tbl : ∀ b ps, H b = some (.tbl ps) → ∃ more, H3 b = some (.tbl (ps ++ more))) {out : Store × Response} (e1 : out.1 = s) (e2 : Kvg9Neutral.resultRow out.2 = l)
    (k : ∀ r H' m', StoreAt K H' a out.1 m' → FrT H a m H' m' → Tabs K H' → H r = none → r ∉ m'.av a → H' r = some (.lst ((Kvg9Neutral.resultRow out.2).map V.int)) → Q (.ref r) H') (np : H3 p = none) : Q (.ref p) (upd H3 p (.lst (l.map V.int))) := by
  have f := FrT.extN (a := a) (m := m) e tbl
  have S3 : StoreAt K H3 a s m := S.keepN e
  have su := same_upd (o := .lst (l.map V.int)) np
  exact k p _ m (by rw [e1]; exact S3.same su) ⟨fun b o h hb n => su _ _ (f.st b o h hb n), fun _ h => .inl h, fun b h => f.al b (su.free h)⟩ ((Fr.of_same (a := a) (m := m) su).tabs S3 t3) (f.al p np) (StoreG.new_off (H' := H3) S (f.al p np)) (by rw [e2, upd_same])
/-- what the lambda's def asks of the state -/
def spMkO (K : PySem.W.Frag) (s : Store) (J : Hp → Prop) (p : Version → Bool) (B : L2.St → Prop) : L2.St → Addr → Addr → V → V → Hp → VK → Prop := fun σ f c' v1 v2 H Q => B σ ∧ ∃ (d : Addr) (kc : List (Key × V)) (av : List Addr), v1 = .ref d ∧ v2 = vN s.head ∧ J H ∧ H d = some (.dK kc) ∧ ComD K H av kc s ∧ Q (vN (orgN s p s.commits.length s.head)) H
theorem head_some {s : Store} (G : Good s) : (s.commit s.head).isSome = true := by
  obtain ⟨c, _, e⟩ := G.head
  rw [e]; rfl
theorem mkA {X : Cx} (T : Tx X.K X.mg) {s : Store} (G : Good s) {n i : Nat} {v : Int} {σ : L2.St} {H : Hp} {st : Shared} {f c' : Addr} {v1 v2 : V} {Q : VK}
    (L : Lm (lamF X (lamP lA) (lamS lA) c') (lamB lA) ["feature_id", "index", "value"] ([2, 3, 5].map (NdefX.slotAt σ)) f X.stack st H) (hco : H c' = some (LamX.CodeO c' (X.env.qual ++ "<lambda>")))
    (h : spMkO X.K s (fun _ => True) (hasP (fun f => f.attributes.getD i 0) n v) (fun σ => i < s.attributeCount ∧ [2, 3, 5].map (NdefX.slotAt σ) = [some (vN n), some (vN i), some (.int v)]) σ f c' v1 v2 H Q) : spOrigin X.prog X.w X.K X.mg X.stack st [v1, v2, .ref f] H Q := by
  obtain ⟨⟨hi, hw⟩, d, kc, av, rfl, rfl, hJ, hd, C, q⟩ := h
  rw [hw] at L
  exact ⟨f, fun _ => True, _, lamF X (lamP lA) (lamS lA) c', lamB lA, _, _, d, kc, s, av, s.head, rfl, ⟨tell_attr T hi G.ac, L, hco, True.intro⟩, hd, C, G, head_some G, q⟩
theorem mkV {X : Cx} (T : Tx X.K X.mg) {s : Store} (G : Good s) {n : Nat} {vx : List (Int × Int)} {σ : L2.St} {H : Hp} {st : Shared} {f c' : Addr} {v1 v2 : V} {Q : VK}
    (L : Lm (lamF X (lamP lV) (lamS lV) c') (lamB lV) ["feature_id", "vertices"] ([2, 4].map (NdefX.slotAt σ)) f X.stack st H) (hco : H c' = some (LamX.CodeO c' (X.env.qual ++ "<lambda>")))
    (h : ∃ (t : Addr) (xs : List V), spMkO X.K s (fun H => SqT X.K H t xs ∧ DpAll X.K H xs (vx.map dV)) (hasP Feature.vertices n vx) (fun σ => [2, 4].map (NdefX.slotAt σ) = [some (vN n), some (.ref t)]) σ f c' v1 v2 H Q) : spOrigin X.prog X.w X.K X.mg X.stack st [v1, v2, .ref f] H Q := by
  obtain ⟨t, xs, hw, d, kc, av, rfl, rfl, hJ, hd, C, q⟩ := h
  rw [hw] at L
  exact ⟨f, _, _, lamF X (lamP lV) (lamS lV) c', lamB lV, _, _, d, kc, s, av, s.head, rfl, ⟨tell_vert T, L, hco, hJ⟩, hd, C, G, head_some G, q⟩
theorem freeA : ∀ y ∈ (lamS lA).names, y.2 = .free → (defScope s_origin_of_attribute).names.lookup y.1 = some .cell ∨ (defScope s_origin_of_attribute).names.lookup y.1 = some .free := by decide +kernel
theorem freeV : ∀ y ∈ (lamS lV).names, y.2 = .free → (defScope s_origin_of_vertices).names.lookup y.1 = some .cell ∨ (defScope s_origin_of_vertices).names.lookup y.1 = some .free := by decide +kernel
theorem tfA : (("origin_of_attribute", none) : Str × Option Str) ∈ tf := by decide +kernel
theorem tfV : (("origin_of_vertices", none) : Str × Option Str) ∈ tf := by decide +kernel
theorem ok_origin_of_attribute (T : Tx K mg) : Ok P w K mg ("origin_of_attribute", none) ["store", "given"] 5 (spRun K g2 (fun _ => True) (fun x => Operation.originOfAttribute x.1 x.2)) := by
  refine T.okC (i := 71) (d := d_origin_of_attribute) rfl rfl sc_origin_of_attribute (fun vs H Q E h => ?_) (fun _ _ _ _ _ _ us hl => match us, hl with | [_, _], _ => rfl) (fun base tb A outer st H vs Q E hr h => ?_)
  · obtain ⟨a, s, m, g, x, xs, rfl, _⟩ := h
    rfl
  · obtain ⟨a, s, m, g, x, xs, rfl, S, G, tt, hg, rfl, hx, k⟩ := h
    obtain ⟨⟨dx, fs, h1, F⟩, ⟨kc, h2, C⟩, ⟨kb, h3, B⟩, ⟨kt, h4, T'⟩, ⟨kw, h5, D⟩, A'⟩ := id S
    have hu := hu_of hr
    obtain ⟨n, i⟩ := x
    dsimp only at hg k
    let val : Int := ((find (s.version s.head) n).map fun f => f.attributes.getD i 0).getD 0
    refine ⟨_, (pss_cons (ps_asg (pv 1) (pg_unl rfl (pgs_cons (pg_name (i := 2) sc_origin_of_attribute.nd rfl (by first | exact Or.inl rfl | exact Or.inr rfl)) (pgs_cons (pg_name (i := 3) sc_origin_of_attribute.nd rfl (by first | exact Or.inl rfl | exact Or.inr rfl)) pgs_nil))))
      (pss_cons (ps_set (i := 4) sc_origin_of_attribute.nd rfl (by first | exact Or.inl rfl | exact Or.inr rfl) (pe_methO0 (pv 0) (ok_Store_head_version T) tb (T.cls 145) (T.meth 156) hr))
      (pss_cons (ps_if (PW.pt (pw_or (pt_cmp (pc_dnotin hu (pv 2) (pv 4))) (pw_or1 (pt_cmpR op_ge (pv 3) (pe_fld (pv 0) rfl) (nomark _)))))
        (pss_one (ps_ret (pe_lst (pa_cons (pe_gint (T.int 108) rfl) pa_nil)))) pss_nil)
      (pss_cons (ps_set (i := 5) sc_origin_of_attribute.nd rfl (by first | exact Or.inl rfl | exact Or.inr rfl) (pe_ix (kIxT (K := K) rfl) (pe_ix (kIxT (K := K) rfl) (pe_dget hu (pv 4) (pv 2) (fun _ _ => rfl)) pe_int (fun _ _ => rfl)) (pv 3) (fun _ _ => rfl)))
      (pss_one (ps_ret (pe_lst (pa_cons (pe_lam3 (params := lamP lA) (body := lamB lA) (scope := lamS lA) (fr := ["feature_id", "index", "value"]) (js := [2, 3, 5]) (TT := tT K) (ok_origin T) tb (T.glo 5) hr rfl (tb _ tfA) rfl (List.mem_map.mpr ⟨_, tfA, rfl⟩) (tt_uA T) rfl (fun _ => rfl) freeA (by decide +kernel) rfl (fun pins σ H1 s1 f c' v1 v2 Q1 I L hco q => mkA T G (v := val) (i := i) (n := n) L hco q) (pe_fld (pv 0) rfl) (pe_methO0 (pv 0) (ok_Store_head T) tb (T.cls 145) (T.meth 155) hr)) pa_nil)))))))), ?_⟩
    refine ⟨_, rfl, g, _, rfl, SqL.of hg, rfl, _, _, rfl, _, _, rfl, rfl, ?_⟩
    refine ⟨_, rfl, a, dx, _, rfl, h1, F.only ("head_version" : Str) (by decide +kernel), a, s, m, _, rfl, S, G.hd, fun d hdv _ => ?_⟩
    obtain ⟨kv, hd, Dv⟩ := hdv
    refine ⟨_, rfl, _, rfl, d, _, rfl, DGet.k (k := kI n) hd, _, rfl, ?_⟩
    have vo := head_src G
    cases hf : find (s.version s.head) n with
    | none =>
      have er := origin_none (i := i) hf
      rw [Dv.none hf]
      refine itT rfl ?_
      exact lit_done S tt (by rw [er]) (by rw [er] <;> rfl) rfl k
    | some f =>
      have er := origin_some (i := i) hf
      obtain ⟨u, e1, e2⟩ := Dv.some hf
      have fo := vo.all f (find_mem hf).1
      rw [e1]
      refine itF rfl ?_
      refine ⟨_, rfl, _, rfl, _, _, _, _, _, rfl, h1, (T.cls 145), (T.noat 147), F.ac, _, _, rfl, rfl, _, rfl, ?_⟩
      rw [geN]
      by_cases hi : i < s.attributeCount
      · refine itF (decide_eq_false (by omega)) ?_
        rw [if_neg (by rw [fo.al]; omega)] at er
        obtain ⟨old, ho⟩ : ∃ o, f.attributes[i]? = some o := ⟨_, List.getElem?_eq_getElem (by rw [fo.al]; exact hi)⟩
        have hval : old = val := by
          show old = ((find (s.version s.head) n).map fun f => f.attributes.getD i 0).getD 0
          rw [hf]
          show old = f.attributes.getD i 0
          rw [List.getD_eq_getElem?_getD, ho]; rfl
        obtain ⟨b, p, q, us, rfl, t3, t4, _, _⟩ := Fea.parts e2
        have gd := DGet.k (k := kI n) hd
        rw [e1] at gd
        refine ⟨_, rfl, _, rfl, d, _, rfl, gd, b, _, _, _, rfl, rfl, t3, atI_nat (j := 0) rfl, _, rfl, p, _, _, _, rfl, rfl, t4, atI_nat (j := i) (by rw [List.getElem?_map, ho]; rfl), ?_⟩
        refine ⟨_, rfl, _, _, _, _, _, rfl, h1, (T.cls 145), (T.noat 150), F.cm, _, rfl, a, dx, _, rfl, h1, F.only ("head" : Str) (by decide +kernel), a, s, m, _, rfl, S, G.hd, tabs_iff.mpr tt, fun fA c' H3 eN T3 tbl => ?_⟩
        refine ⟨⟨hi, by rw [← hval]; rfl⟩, m.dc, kc, _, rfl, rfl, True.intro, eN _ _ h2 (fun _ z => by cases z), C.keep (fun b o q _ nn => eN b o q nn) (tup_extN eN), ?_⟩
        refine ⟨by show 1 ≤ sizeLine; rw [sizeLine_eq]; decide, fun p np => ?_⟩
        have hP : hasP (fun f => f.attributes.getD i 0) n val (s.version s.head) = true := by
          unfold hasP
          rw [hf]
          show decide (f.attributes.getD i 0 = val) = true
          rw [← hval, List.getD_eq_getElem?_getD, ho]
          exact decide_eq_true rfl
        rw [origin_eq _ _ hP] at er
        exact extN_done (l := [((orgN s (hasP (fun f => f.attributes.getD i 0) n val) s.commits.length s.head : Nat) : Int)]) S (tabs_iff.mp T3) eN tbl (by rw [er]) (by rw [er] <;> rfl) k np
      · refine itT (decide_eq_true (by omega)) ?_
        rw [if_pos (by rw [fo.al]; omega)] at er
        exact lit_done S tt (by rw [er]) (by rw [er] <;> rfl) rfl k
theorem ok_origin_of_vertices (T : Tx K mg) : Ok P w K mg ("origin_of_vertices", none) ["store", "given"] 5 (spRun K g1 (fun _ => True) (fun x => Operation.originOfVertices x)) := by
  refine T.okC (i := 72) (d := d_origin_of_vertices) rfl rfl sc_origin_of_vertices (fun vs H Q E h => ?_) (fun _ _ _ _ _ _ us hl => match us, hl with | [_, _], _ => rfl) (fun base tb A outer st H vs Q E hr h => ?_)
  · obtain ⟨a, s, m, g, x, xs, rfl, _⟩ := h
    rfl
  · obtain ⟨a, s, m, g, n, xs, rfl, S, G, tt, hg, rfl, hx, k⟩ := h
    obtain ⟨⟨dx, fs, h1, F⟩, ⟨kc, h2, C⟩, ⟨kb, h3, B⟩, ⟨kt, h4, T'⟩, ⟨kw, h5, D⟩, A'⟩ := id S
    have hu := hu_of hr
    let val : List (Int × Int) := ((find (s.version s.head) n).map Feature.vertices).getD []
    have er : s.run (.originOfVertices n) = if (find (s.version s.head) n).isNone then (s, .error (-2)) else (s, .number (s.origin n Feature.vertices s.commits.length s.head)) := rfl
    dsimp only at hg k
    refine ⟨_, (pss_cons (ps_set (i := 2) sc_origin_of_vertices.nd rfl (by first | exact Or.inl rfl | exact Or.inr rfl) (pe_ix (kIxL (K := K) rfl) (pv 1) pe_int (fun _ _ => rfl)))
      (pss_cons (ps_set (i := 3) sc_origin_of_vertices.nd rfl (by first | exact Or.inl rfl | exact Or.inr rfl) (pe_methO0 (pv 0) (ok_Store_head_version T) tb (T.cls 145) (T.meth 156) hr))
      (pss_cons (ps_if (pt_cmp (pc_dnotin hu (pv 2) (pv 3)))
        (pss_one (ps_ret (pe_lst (pa_cons (pe_gint (T.int 108) rfl) pa_nil)))) pss_nil)
      (pss_cons (ps_set (i := 4) sc_origin_of_vertices.nd rfl (by first | exact Or.inl rfl | exact Or.inr rfl) (pe_ix (kIxT (K := K) rfl) (pe_dget hu (pv 3) (pv 2) (fun _ _ => rfl)) pe_int (fun _ _ => rfl)))
      (pss_one (ps_ret (pe_lst (pa_cons (pe_lam3 (params := lamP lV) (body := lamB lV) (scope := lamS lV) (fr := ["feature_id", "vertices"]) (js := [2, 4]) (TT := tT K) (ok_origin T) tb (T.glo 5) hr rfl (tb _ tfV) rfl (List.mem_map.mpr ⟨_, tfV, rfl⟩) (tt_uV T) rfl (fun _ => rfl) freeV (by decide +kernel) rfl (fun pins σ H1 s1 f c' v1 v2 Q1 I L hco q => mkV T G (vx := val) (n := n) L hco q) (pe_fld (pv 0) rfl) (pe_methO0 (pv 0) (ok_Store_head T) tb (T.cls 145) (T.meth 155) hr)) pa_nil)))))))), ?_⟩
    refine ⟨_, rfl, g, _, _, _, rfl, rfl, SqL.of hg, atI_nat (j := 0) rfl, ?_⟩
    refine ⟨_, rfl, a, dx, _, rfl, h1, F.only ("head_version" : Str) (by decide +kernel), a, s, m, _, rfl, S, G.hd, fun d hdv _ => ?_⟩
    obtain ⟨kv, hd, Dv⟩ := hdv
    refine ⟨_, rfl, _, rfl, d, _, rfl, DGet.k (k := kI n) hd, _, rfl, ?_⟩
    have vo := head_src G
    cases hf : find (s.version s.head) n with
    | none =>
      rw [hf] at er
      replace er : s.run (.originOfVertices n) = (s, .error (-2)) := er
      rw [Dv.none hf]
      refine itT rfl ?_
      exact lit_done S tt (by rw [er]) (by rw [er] <;> rfl) rfl k
    | some f =>
      rw [hf] at er
      replace er : s.run (.originOfVertices n) = (s, .number (s.origin n Feature.vertices s.commits.length s.head)) := er
      obtain ⟨u, e1, e2⟩ := Dv.some hf
      rw [e1]
      refine itF rfl ?_
      have hval : f.vertices = val := by
        show f.vertices = ((find (s.version s.head) n).map Feature.vertices).getD []
        rw [hf]; rfl
      obtain ⟨b, p, q, us, rfl, t3, t4, t5, t6⟩ := Fea.parts e2
      have gd := DGet.k (k := kI n) hd
      rw [e1] at gd
      refine ⟨_, rfl, _, rfl, d, _, rfl, gd, b, _, _, _, rfl, rfl, t3, atI_nat (j := 1) rfl, ?_⟩
      refine ⟨_, rfl, _, _, _, _, _, rfl, h1, (T.cls 145), (T.noat 150), F.cm, _, rfl, a, dx, _, rfl, h1, F.only ("head" : Str) (by decide +kernel), a, s, m, _, rfl, S, G.hd, tabs_iff.mpr tt, fun fA c' H3 eN T3 tbl => ?_⟩
      have tu := tup_extN eN
      refine ⟨q, us, rfl, m.dc, kc, _, rfl, rfl, ⟨L2.SqT.tup tu t5, DpAllT.tup tu _ _ (noLs_map (fun _ => rfl) _) (by rw [← hval]; exact t6)⟩, eN _ _ h2 (fun _ z => by cases z), C.keep (fun b o q _ nn => eN b o q nn) tu, ?_⟩
      refine ⟨by show 1 ≤ sizeLine; rw [sizeLine_eq]; decide, fun p np => ?_⟩
      have hP : hasP Feature.vertices n val (s.version s.head) = true := by
        unfold hasP
        rw [hf]
        show decide (f.vertices = val) = true
        rw [← hval]
        exact decide_eq_true rfl
      rw [origin_eq _ _ hP] at er
      exact extN_done (l := [((orgN s (hasP Feature.vertices n val) s.commits.length s.head : Nat) : Int)]) S (tabs_iff.mp T3) eN tbl (by rw [er]) (by rw [er] <;> rfl) k np
end Pv
end
section
set_option Elab.async false
set_option linter.all false
set_option maxRecDepth 100000
set_option maxHeartbeats 2000000
namespace Pv
open PySem PySem.Spec PyProof.Rows L2 Kvg9
open L2 (Dp DpAll)
/-! ### a display of more than seventeen pairs -/
section
variable {prog : Program} {w : World} {KK : Type} [DecidableEq KK] {knd : KeyKind prog w KK} {A : Around} {E : Value → Shared → Prop} {s : Shared}
theorem wpAny_dictPut_pairs {d : Addr} {kvs : List (KK × Value)} {k : KK} {key v : Value} {Q : Unit → Shared → Prop} (hkey : knd.is k key = true) (hm : s.heap.DictOf knd d kvs)
    (hQ : ∀ h', h'.DictOf knd d (stored kvs k v) → Heap.SameBut d s.heap h' → Q () { s with heap := h' })
    (hsz : kvs.length ≤ sizeLine) :
    wpAny (model prog w) A (dictPut d (knd.hash k) key v) Q E s := by
  obtain ⟨o, es, ep, ho, hc, hd, hk, hp, hn⟩ := hm
  have hes : es.size ≤ sizeLine := by have e1 := hp.length; have e2 : es.toList.length = es.size := by simp
                                      omega
  unfold dictPut
  refine wpAny_bind (wpAny_dictFind_of hkey ho hd hk ?_)
  have hidx : (es.findIdx? fun e => knd.is k e.key) = kvs.findIdx? fun kv => decide (kv.1 = k) := by
    rw [← hp.findIdx k]; obtain ⟨l⟩ := es; simp
  cases hi : es.findIdx? fun e => knd.is k e.key with
  | some i =>
    refine wpAny_updateDict ho hd (hQ _ ⟨_, _, ep, Heap.get?_update_self _ ho (Obj.isFreed_of_dict (Obj.data_mapDict hd _)),
      hc.mapDict _, Obj.data_mapDict hd _, hk.modify _ _, ?_, ?_⟩ (Heap.SameBut.update ..))
    · rw [stored, if_pos (any_of_findIdx_some (hidx ▸ hi))]
      have hl : (es.toList.findIdx? fun e => knd.is k e.key) = some i := by rw [← hi]; obtain ⟨l⟩ := es; simp
      have := hp.modify hn hl v
      obtain ⟨l⟩ := es
      simpa using this
    · rw [stored, if_pos (any_of_findIdx_some (hidx ▸ hi)), keys_map_store]; exact hn
  | none =>
    have hnot : k ∉ kvs.map (·.1) := not_mem_of_findIdx_none (hidx ▸ hi)
    have hany : ¬ (kvs.any fun kv => decide (kv.1 = k)) = true := by
      rw [List.any_eq_true]; rintro ⟨kv, hkv, he⟩
      exact hnot (List.mem_map.mpr ⟨kv, hkv, of_decide_eq_true he⟩)
    refine wpAny_updateDictKeys (hz := hes) ho hd (hQ _ ⟨_, _, ep + 1, Heap.get?_update_self _ ho (Obj.isFreed_of_dict (Obj.data_mapDictKeys hd _)),
      hc.mapDictKeys _, Obj.data_mapDictKeys hd _, hk.push hkey _, ?_, ?_⟩ (Heap.SameBut.update ..))
    · rw [stored, if_neg hany]
      have := hp.append hkey (knd.hash k) v
      obtain ⟨l⟩ := es
      simpa using this
    · rw [stored, if_neg hany, List.map_append, List.nodup_append]
      refine ⟨hn, by simp, ?_⟩
      intro a ha b hb
      simp only [List.map_cons, List.map_nil, List.mem_singleton] at hb
      subst hb
      exact fun e => hnot (e ▸ ha)
theorem wpAny_mergeMapping_dict {d o : Addr} {kvs more : List (KK × Value)} {Q : Unit → Shared → Prop} (hdo : d ≠ o) (hoS : (o == sysModules) = false)
    (hd : s.heap.DictOf knd d kvs) (ho : s.heap.DictOf knd o more) (hne : kvs ≠ [])
    (hQ : ∀ h', h'.DictOf knd d (merged kvs more) → h'.DictOf knd o more → Heap.SameBut d s.heap h' → Q () { s with heap := h' })
    (hsz : kvs.length + more.length ≤ sizeLine) :
    wpAny (model prog w) A (mergeMapping d (.ref o) false) Q E s := by
  obtain ⟨od, esd, epd, hod, hcd, hdd, hkd, hpd, hnd⟩ := id hd
  obtain ⟨oo, eso, epo, hoo, hco, hdo', hko, hpo, hno⟩ := id ho
  have hlen : more.length = eso.size := by rw [← hpo.length]; simp
  unfold mergeMapping
  refine wpAny_bind (wpAny_isInstance ho.typeIs isSubtype_dict_dict ?_)
  rw [if_pos rfl]
  refine wpAny_bind (wpAny_specialOf ho.typeIs F.slot_dict_iter.lookup ?_)
  refine wpAny_bind (wpAny_pure ?_)
  simp only [beq_self_eq_true]
  rw [if_neg (by rw [hoS]; exact Bool.false_ne_true)]
  refine wpAny_bind (wpAny_dictEntries hod hdd ?_)
  have hesd : esd.isEmpty = false := by
    cases h : esd.isEmpty with
    | false => rfl
    | true =>
      have h0 : esd = #[] := Array.isEmpty_iff.mp h
      have := hpd.length
      rw [h0] at this
      exact absurd (List.length_eq_zero_iff.mp (by simpa using this.symm)) hne
  rw [hesd]
  rw [if_neg Bool.false_ne_true]
  refine wpAny_bind (wpAny_dictEntries hoo hdo' ?_)
  refine wpAny_bind (wpAny_dictEpoch hoo hdo' ?_)
  refine wpAny_bind ?_
  refine wpAny_forIn_list _
      (fun rest _ s' => ∃ h' i, s' = { s with heap := h' } ∧ rest = List.range' i (eso.size - i) ∧ i ≤ eso.size ∧ h'.DictOf knd d (merged kvs (more.take i)) ∧ h'.get? o = some oo ∧ Heap.SameBut d s.heap h')
      _ ?_ ?_ _ _ ⟨s.heap, 0, rfl, by rw [List.range_eq_range']; rfl, Nat.zero_le _, by simpa [merged] using hd, hoo, Heap.SameBut.refl _ _⟩
  · rintro x rest b s' ⟨h', i, rfl, hr, hi, hd', hoo', hs'⟩
    have hlt : i < eso.size := by
      rcases Nat.lt_or_ge i eso.size with h | h
      · exact h
      · rw [Nat.sub_eq_zero_of_le h] at hr; simp at hr
    obtain ⟨rfl, hrest⟩ : x = i ∧ rest = List.range' (i + 1) (eso.size - (i + 1)) := by
      have e : eso.size - i = (eso.size - (i + 1)) + 1 := by omega
      rw [e, List.range'_succ] at hr
      injection hr with h1 h2
      exact ⟨h1, h2⟩
    refine wpAny_bind (wpAny_dictEntries hoo' hdo' ?_)
    rw [Array.getElem?_eq_getElem hlt]
    obtain ⟨kv, hkv⟩ : ∃ kv, more[x]? = some kv := ⟨more[x]'(by rw [hlen]; exact hlt), List.getElem?_eq_getElem _⟩
    obtain ⟨k, v⟩ := kv
    obtain ⟨hkey, hval⟩ := hpo.get? (e := eso[x]) (by simp [hlt]) hkv
    obtain ⟨k', hkey', hhash⟩ := hko eso[x] (Array.getElem_mem hlt)
    obtain rfl : k' = k := knd.inj _ _ _ hkey' hkey
    refine wpAny_bind (wpAny_holding ?_)
    rw [if_neg Bool.false_ne_true]
    rw [hhash, hval]
    have hmx : (merged kvs (more.take x)).length ≤ sizeLine := by
      have e1 := merged_length_le kvs (more.take x)
      have e2 : (more.take x).length ≤ more.length := by rw [List.length_take]; omega
      omega
    refine wpAny_dictPut_pairs (hsz := hmx) hkey hd' fun h'' hd'' hs'' => ?_
    have hoo'' : h''.get? o = some oo := (hs''.2 o (Ne.symm hdo)).trans hoo'
    refine wpAny_bind (wpAny_dictEpoch hoo'' hdo' ?_)
    rw [if_neg (by simp)]
    exact wpAny_pure ⟨h'', x + 1, rfl, hrest, hlt, by rw [merged_take_succ kvs more x (k', v) hkv]; exact hd'', hoo'', hs'.trans hs''⟩
  · rintro b s' ⟨h', i, rfl, hr, hi, hd', hoo', hs'⟩
    have hin : i = eso.size := by
      rcases Nat.lt_or_ge i eso.size with h | h
      · have e : eso.size - i = (eso.size - (i + 1)) + 1 := by omega
        rw [e, List.range'_succ] at hr; exact nomatch hr
      · exact Nat.le_antisymm hi h
    refine wpAny_pure (hQ h' ?_ ⟨oo, eso, epo, hoo', hco, hdo', hko, hpo, hno⟩ hs')
    rw [hin, ← hlen, List.take_length] at hd'; exact hd'
end
abbrev DP := Sem Value × Sem Value
theorem forIn_gather2 (f : (Option (Sem Value) × Sem Value) → (Option Addr × List DP) → Sem (ForInStep (Option Addr × List DP)))
    (hf : ∀ (p : DP) (run : List DP) (main : Option Addr), run.length + 1 < 17 → f (some p.1, p.2) (main, run) = pure (.yield (main, run ++ [p]))) :
    ∀ (items run : List DP) (main : Option Addr) (rest : List (Option (Sem Value) × Sem Value)), run.length + items.length < 17 → forIn (items.map (fun p => (some p.1, p.2)) ++ rest) (main, run) f = forIn rest (main, run ++ items) f
  | [], run, main, rest, _ => by simp
  | p :: items, run, main, rest, h => by
    rw [List.map_cons, List.cons_append, List.forIn_cons, hf p run main (by simp at h; omega), pure_bind]
    have := forIn_gather2 f hf items (run ++ [p]) main rest (by simp at h ⊢; omega)
    simpa using this
def letGo (d : Addr) (x : Value) : Sem Unit := do let _ ← holding [.ref d, x] (runValue (.builtin "proto.let_go" {}))
theorem dictDisplay_two (l1 l2 : List DP) (h1 : l1.length = 17) (h2 : l2.length < 17) (h0 : l2 ≠ []) :
    dictDisplay ((l1 ++ l2).map fun p => (some p.1, p.2)) = (do
      let d ← subDict l1
      let sub ← holding [.ref d] (subDict l2)
      (holding [.ref d, .ref sub] (mergeMapping d (.ref sub) false)).onRaise (letGo d)
      pure (.ref d)) := by
  obtain ⟨l, p, rfl⟩ : ∃ l p, l1 = l ++ [p] := ⟨l1.dropLast, l1.getLast (by intro z; rw [z] at h1; cases h1), (List.dropLast_concat_getLast _).symm⟩
  have hl : l.length = 16 := by simp at h1; omega
  unfold dictDisplay
  dsimp only
  rw [List.map_append, List.map_append, List.append_assoc]
  rw [forIn_gather2 _ (fun p run main h => by
    have hne : ((run ++ [(p.1, p.2)]).length == 17) = false := by simp; omega
    simp only [hne, Bool.false_eq_true, if_false]) l [] none _ (by simp; omega)]
  rw [List.map_cons, List.map_nil, List.singleton_append, List.forIn_cons]
  have he : ((([] ++ l) ++ [(p.1, p.2)]).length == 17) = true := by simp; omega
  simp only [he, if_true]
  simp only [List.nil_append]
  have hne : (l ++ [(p.1, p.2)]).isEmpty = false := by simp
  simp only [hne, Bool.false_eq_true, if_false]
  simp only [pure_bind, bind_assoc]
  refine congrArg _ (funext fun d => ?_)
  rw [show (List.map (fun p : DP => (some p.1, p.2)) l2) = List.map (fun p : DP => (some p.1, p.2)) l2 ++ [] by simp]
  rw [forIn_gather2 _ (fun p run main h => by
    have hne : ((run ++ [(p.1, p.2)]).length == 17) = false := by simp; omega
    simp only [hne, Bool.false_eq_true, if_false]) l2 [] (some d) [] (by simp; omega)]
  rw [List.forIn_nil, pure_bind]
  simp only [List.nil_append]
  have hne2 : l2.isEmpty = false := by simp [h0]
  simp only [hne2, Bool.false_eq_true, if_false, bind_assoc, pure_bind]
  rfl
def storeP (d : Addr) (pairs : List DP) : Sem PUnit := forIn pairs PUnit.unit fun x _ => (do
  let kv ← x.1
  let vv ← holding [kv] x.2
  holding [kv, vv] (dictSet d kv vv)
  pure (ForInStep.yield PUnit.unit) : Sem (ForInStep PUnit))
theorem wpAny_subDict_long {prog : Program} {w : World} {A : Around} {E : Value → Shared → Prop} {s : Shared} {pairs : List DP} {Q : Addr → Shared → Prop} (h15 : 15 < pairs.length)
    (h : wpAny (model prog w) A (storeP s.heap.objs.size pairs) (fun _ s' => Q s.heap.objs.size s') E { s with heap := s.heap.push { cls := .type "dict", data := .dict #[] } }) :
    wpAny (model prog w) A (subDict pairs) Q E s := by
  unfold subDict
  refine wpAny_bind (wpAny_alloc ?_)
  refine wpAny_bind (wpAny_holding ?_)
  rw [if_neg (by omega)]
  refine wpAny_bind (wpAny_rule ?_)
  exact wpAny_bind (wpAny_mono h (fun _ s' h' => wpAny_pure (wpAny_pure h')) fun _ _ e => e)
/-- the pairs of a display, each stored as soon as it is made -/
def tStore (d : Addr) : List (TE × TE) → L2.St → Hp → (Hp → Prop) → Prop
  | [], _, H, Q => Q H
  | (tk, tv) :: r, σ, H, Q => tk σ H fun x H1 => tv σ H1 fun y H2 => ∃ (kvs : List (Key × V)) (k : Key), x = kV k ∧ H2 d = some (.dK kvs) ∧ kvs.length < 100 ∧ tStore d r σ (upd H2 d (.dK (putK kvs k y))) Q
structure PSto (X : Cx) (pos : Pos) (keys : List (Option Expr)) (values : List Expr) (trs : List (TE × TE)) : Prop where
  run : ∀ (pins : List (Addr × Obj)) (s : Shared) (σ : L2.St) (H : Hp) (d : Addr) (Q : Hp → Prop), Inv X pins σ H s → tStore d trs σ H Q →
    wpAny (model X.prog X.w) X.A (storeP d (pairTrees keys values X.env pos)) (fun _ s' => ∃ H', Inv X pins σ H' s' ∧ Q H') X.xe s
theorem psto_nil {X : Cx} {pos : Pos} : PSto X pos [] [] [] := ⟨fun pins s σ H d Q I h => by
  show wpAny _ _ (forIn ([] : List DP) PUnit.unit _) _ _ _
  rw [List.forIn_nil]
  exact wpAny_pure ⟨H, I, h⟩⟩
theorem psto_cons {X : Cx} {pos : Pos} {k v : Expr} {ks : List (Option Expr)} {vs : List Expr} {tk tv : TE} {trs : List (TE × TE)} (hk : PE X k tk) (hv : PE X v tv) (hr : PSto X pos ks vs trs) :
    PSto X pos (some k :: ks) (v :: vs) ((tk, tv) :: trs) := ⟨fun pins s σ H d Q I h => by
  show wpAny _ _ (forIn ((eval k X.env, (do let x ← eval v X.env; standAt pos; pure x)) :: pairTrees ks vs X.env pos) PUnit.unit _) _ _ _
  rw [List.forIn_cons]
  refine wpAny_bind (wpAny_bind (thn (hk.run pins s σ H _ I h) fun u s1 ⟨x, H1, I1, rx, q1⟩ => ?_))
  refine wpAny_bind (wpAny_holding (wpAny_bind (thn (hv.run pins s1 σ H1 _ I1 q1) fun w2 s2 ⟨y, H2, I2, ry, q2⟩ => wpAny_bind (wpAny_standAt (wpAny_pure ?_)))))
  obtain ⟨kvs, key, rfl, e, l, q3⟩ := q2
  obtain ⟨z, hd, vs0, rel, dd⟩ := dk_of I2.hok e
  have hl : (putK kvs key y).length ≤ sizeLine := by
    have := length_putK kvs key y
    rw [sizeLine_eq]; omega
  refine wpAny_bind (wpAny_holding (wpAny_dictSet_pairs (knd := mixKind X.prog X.w) (hsz := by rw [← rel.length]; exact z) (kV_is rx) dd fun h' dd' hs => wpAny_pure ?_))
  have he : ∃ q, h'.get? d = some q := let ⟨q, _, _, hq, _⟩ := dd'; ⟨q, hq⟩
  exact hr.run pins _ σ _ d Q (d_write I2 (by rw [e]; exact True.intro) hs he (dk_new hl hd (rel.put key ry) dd')) q3⟩
/-- {k: v, ..} with 18 to 32 pairs: seventeen are stored one by one, the others stand in a dict of their own first -/
def tDisp2 (trs1 trs2 : List (TE × TE)) : TE := fun σ H Q => ∀ p, H p = none → tStore p trs1 σ (upd H p (.dK [])) fun H1 => ∀ q, H1 q = none → tPairs trs2 σ (upd H1 q (.dK [])) fun ps H2 => p ≠ q ∧ H2 q = some (.dK []) ∧
  ∃ kvs kvs1 : List (Key × V), ps = kvs.map (fun kv => (kV kv.1, kv.2)) ∧ kvs.length ≤ 15 ∧ H2 p = some (.dK kvs1) ∧ kvs1 ≠ [] ∧ kvs1.length < 100 ∧ Q (.ref p) (upd (upd H2 q (.dK (mergeK [] kvs))) p (.dK (mergeK kvs1 (mergeK [] kvs))))
theorem pairTrees_app {env : Env} {pos : Pos} : ∀ {k1 : List (Option Expr)} {v1 : List Expr} {k2 : List (Option Expr)} {v2 : List Expr}, k1.all (·.isSome) = true → k1.length = v1.length → pairTrees (k1 ++ k2) (v1 ++ v2) env pos = pairTrees k1 v1 env pos ++ pairTrees k2 v2 env pos
  | [], [], _, _, _, _ => rfl
  | [], _ :: _, _, _, _, h => by simp at h
  | _ :: _, [], _, _, _, h => by simp at h
  | none :: _, _ :: _, _, _, h, _ => by simp at h
  | some k :: ks, v :: vs, k2, v2, h, hl => by
    have ih := pairTrees_app (env := env) (pos := pos) (k1 := ks) (v1 := vs) (k2 := k2) (v2 := v2) (by simpa using h) (by simpa using hl)
    show _ :: pairTrees (ks ++ k2) (vs ++ v2) env pos = _ :: (pairTrees ks vs env pos ++ pairTrees k2 v2 env pos)
    rw [ih]
theorem pe_disp2 {X : Cx} {pos : Pos} {k1 k2 : List (Option Expr)} {v1 v2 : List Expr} {t1 t2 : List (TE × TE)} (h1 : PSto X pos k1 v1 t1) (h2 : PPs X pos k2 v2 t2) (a1 : k1.all (·.isSome) = true) (a2 : k2.all (·.isSome) = true) (l1 : k1.length = v1.length) (l2 : k2.length = v2.length)
    (n1 : k1.length = 17) (n2 : k2.length ≤ 15) (n0 : 0 < k2.length) : PE X (.Dict (k1 ++ k2) (v1 ++ v2) pos) (tDisp2 t1 t2) := by
  refine ⟨fun pins s σ H Q I q => ?_⟩
  have p1 := pairTrees_length k1 v1 X.env pos a1 l1
  have p2 := pairTrees_length k2 v2 X.env pos a2 l2
  rw [arm_eval_Dict, zip_pairTrees (k1 ++ k2) (v1 ++ v2) X.env pos (by rw [List.all_append, a1, a2]; rfl) (by rw [List.length_append, List.length_append, l1, l2]), pairTrees_app a1 l1]
  rw [dictDisplay_two _ _ (by rw [p1, n1]) (by rw [p2]; omega) (by intro z; rw [z] at p2; simp at p2; omega)]
  have hn := I.hok.fresh (Nat.le_refl s.heap.objs.size)
  refine wpAny_bind (wpAny_standAt (wpAny_bind (wpAny_subDict_long (by rw [p1, n1]; decide) ?_)))
  have I1 := I.laid (a := s.heap.objs.size) (o := .dK []) (h' := s.heap.push { cls := .type "dict", data := .dict #[] }) (t' := s.toks) (fun _ _ q => Heap.get?_push_of_some _ q) (Nat.le_refl _) (dk_empty s.heap I.big)
  refine thn (h1.run pins _ σ _ s.heap.objs.size _ I1 (q _ hn)) fun _ s2 ⟨H1, I2, q1⟩ => ?_
  have hn2 := I2.hok.fresh (Nat.le_refl s2.heap.objs.size)
  have I3 := I2.laid (a := s2.heap.objs.size) (o := .dK []) (h' := s2.heap.push { cls := .type "dict", data := .dict #[] }) (t' := s2.toks) (fun _ _ q => Heap.get?_push_of_some _ q) (Nat.le_refl _) (dk_empty s2.heap I2.big)
  generalize s.heap.objs.size = p at *
  generalize hq0 : s2.heap.objs.size = r at *
  refine wpAny_bind (wpAny_holding (wpAny_subDict (knd := mixKind X.prog X.w) (by rw [p2]; exact n2) ?_))
  rw [hq0]
  refine thn (h2.run pins _ σ _ _ I3 (q1 _ hn2)) fun ws s4 ⟨ps, H2, I4, rel, ne, e, kvs, kvs1, ep, lk, e1, n1', lk1, q2⟩ => ?_
  subst ep
  obtain ⟨rs, c, rk⟩ := carries_of (P := X.prog) (w := X.w) rel
  obtain ⟨z, hd, vs0, r0, dd⟩ := dk_of I4.hok e
  cases r0
  refine ⟨rs, c, dd, fun h' dd' hs => ?_⟩
  have hz : (mergeK [] kvs).length ≤ 15 := by
    have h1 := length_mergeK kvs []
    rw [List.length_nil] at h1
    omega
  have he : ∃ q, h'.get? r = some q := let ⟨q, _, _, hq, _⟩ := dd'; ⟨q, hq⟩
  have I5 := d_write (t' := s4.toks + ws.length) I4 (by rw [e]; exact True.intro) hs he (dk_new (by rw [sizeLine_eq]; omega) hd (rk.merge .nil) dd')
  have e5 : (upd H2 r (.dK (mergeK [] kvs))) p = some (.dK kvs1) := by rw [upd_ne ne]; exact e1
  obtain ⟨z5, hd5, vs5, r5, dd5⟩ := dk_of I5.hok e5
  obtain ⟨z6, hd6, vs6, r6, dd6⟩ := dk_of I5.hok (show (upd H2 r (.dK (mergeK [] kvs))) r = some (.dK (mergeK [] kvs)) from upd_same)
  have hl : (mergeK kvs1 (mergeK [] kvs)).length ≤ sizeLine := by
    have := length_mergeK (mergeK [] kvs) kvs1
    rw [sizeLine_eq]; omega
  refine wpAny_bind (wpAny_onRaise (wpAny_holding (wpAny_mergeMapping_dict (knd := mixKind X.prog X.w) (hsz := by rw [← r5.length, ← r6.length, sizeLine_eq]; omega) ne hd6 dd5 dd6 (by intro z; rw [z] at r5; have := r5.length; exact n1' (List.length_eq_zero_iff.mp this)) fun h6 d6 _ hs6 => wpAny_pure ?_)))
  have he6 : ∃ q, h6.get? p = some q := let ⟨q, _, _, hq, _⟩ := d6; ⟨q, hq⟩
  exact ⟨.ref p, _, d_write I5 (by rw [e5]; exact True.intro) hs6 he6 (dk_new hl hd5 (r6.merge r5) d6), rfl, q2⟩
end Pv
end
section
set_option Elab.async false
set_option linter.all false
set_option maxRecDepth 100000
set_option maxHeartbeats 2000000
namespace Pv
open Kvg9
/-! ### the store stays in order -/
structure Kp (s s' : Store) : Prop where
  good : Good s'
  len : s'.commits.length ≤ s.commits.length + 1
theorem Kp.refl {s : Store} (G : Good s) : Kp s s := ⟨G, Nat.le_succ _⟩
theorem Good.put {s : Store} (G : Good s) {b t : List (Nat × Nat)} {c : Nat} {v : Version} (hb : NOk' s b) (ht : NOk' s t) (hc : (lookup b c).isSome = true) (hv : VOk s.attributeCount v) : Good { s with branches := b, tags := t, current := c, working := v } :=
  ⟨G.ac, G.n1, G.zero, fun n c h => let q := G.com n c h; ⟨q.two, q.some_, q.low, q.ver⟩, hv, ⟨hb.srt, hb.at_, hb.len⟩, ⟨ht.srt, ht.at_, ht.len⟩, hc⟩
theorem Good.setW {s : Store} (G : Good s) {v : Version} (hv : VOk s.attributeCount v) : Kp s { s with working := v } := ⟨G.put G.br G.tg G.cur hv, Nat.le_succ _⟩
theorem nok_assign {s : Store} {l : List (Nat × Nat)} {n c : Nat} (h : NOk' s l) (hn : n < 4294967296) (hc : (s.commit c).isSome = true) (hl : (assign n c l).length ≤ 8) : NOk' s (assign n c l) :=
  ⟨srt_assign h.srt, fun e he => (mem_assign he).elim (fun q => by rw [q]; exact ⟨hc, hn⟩) (h.at_ e), hl⟩
theorem nok_drop {s : Store} {l : List (Nat × Nat)} {n : Nat} (h : NOk' s l) : NOk' s (l.filter fun e => e.1 != n) :=
  ⟨srt_drop h.srt, fun e he => h.at_ e (List.mem_filter.mp he).1, Nat.le_trans (List.length_filter_le _ _) h.len⟩
theorem Good.name {s : Store} (G : Good s) {n c : Nat} (h : lookup s.branches n = some c) : n < 4294967296 ∧ (s.commit c).isSome = true :=
  let q := G.br.at_ _ (look_mem h); ⟨q.2, q.1⟩
theorem Good.curN {s : Store} (G : Good s) : s.current < 4294967296 := by
  cases e : lookup s.branches s.current with
  | none => have := G.cur; rw [e] at this; cases this
  | some c => exact (G.name e).1
theorem Good.verV {s : Store} (G : Good s) {c : Nat} (h : (s.commit c).isSome = true) : VOk s.attributeCount (s.version c) := by
  obtain ⟨cm, e⟩ := Option.isSome_iff_exists.mp h
  rw [ver_of e]
  exact (G.com c cm e).ver
/-- the current branch is set to a commit -/
theorem Good.reset {s : Store} (G : Good s) {c : Nat} (hc : (s.commit c).isSome = true) : Kp s { s with branches := assign s.current c s.branches, working := s.version c } := by
  refine ⟨G.put (nok_assign G.br G.curN hc ?_) G.tg ?_ (G.verV hc), Nat.le_succ _⟩
  · rw [len_assign G.br.srt, if_pos G.cur]; exact G.br.len
  · rw [look_assign, if_pos rfl]; rfl
theorem Good.append {s : Store} (G : Good s) {ps : List Nat} {v : Version} (hv : VOk s.attributeCount v) (hl : s.commits.length < 40) (h2 : ps.length ≤ 2) (h0 : ps ≠ []) (hp : ∀ p ∈ ps, (s.commit p).isSome = true) : Kp s (s.append ps v) := by
  have hc : ∀ n, (s.append ps v).commit n = if n = s.commits.length then some ⟨ps, v⟩ else s.commit n := fun n => moreC_commit s ps v n
  have hs : ∀ n, (s.commit n).isSome = true → ((s.append ps v).commit n).isSome = true := fun n h => by
    obtain ⟨cm, e⟩ := Option.isSome_iff_exists.mp h
    rw [hc, if_neg (Nat.ne_of_lt (commit_lt e))]; exact h
  have lt : ∀ n, (s.commit n).isSome = true → n < s.commits.length := fun n h => by
    obtain ⟨cm, e⟩ := Option.isSome_iff_exists.mp h
    exact commit_lt e
  have ll : (s.append ps v).commits.length = s.commits.length + 1 := by
    show (s.commits ++ [some (⟨ps, v⟩ : Commit)]).length = _
    rw [List.length_append]; rfl
  refine ⟨⟨G.ac, by rw [ll]; omega, hs 0 G.zero, fun n c h => ?_, hv, ⟨srt_assign G.br.srt, fun e he => ?_, ?_⟩, ⟨G.tg.srt, fun e he => ⟨hs _ (G.tg.at_ e he).1, (G.tg.at_ e he).2⟩, G.tg.len⟩, ?_⟩, by rw [ll]; exact Nat.le_refl _⟩
  · rw [hc] at h
    by_cases q : n = s.commits.length
    · rw [if_pos q] at h
      obtain rfl : (⟨ps, v⟩ : Commit) = c := Option.some.inj h
      exact ⟨h2, fun _ => h0, fun p hp' => ⟨by rw [q]; exact lt p (hp p hp'), hs p (hp p hp')⟩, hv⟩
    · rw [if_neg q] at h
      have g := G.com n c h
      exact ⟨g.two, g.some_, fun p hp' => ⟨(g.low p hp').1, hs p (g.low p hp').2⟩, g.ver⟩
  · rcases mem_assign he with q | q
    · rw [q]
      refine ⟨?_, G.curN⟩
      show ((s.append ps v).commit s.commits.length).isSome = true
      rw [hc, if_pos rfl]; rfl
    · exact ⟨hs _ (G.br.at_ e q).1, (G.br.at_ e q).2⟩
  · show (assign s.current s.commits.length s.branches).length ≤ 8
    rw [len_assign G.br.srt, if_pos G.cur]; exact G.br.len
  · show (lookup (assign s.current s.commits.length s.branches) s.current).isSome = true
    rw [look_assign, if_pos rfl]; rfl
theorem vok_ins {k : Nat} {v : Version} {f : Feature} (h : VOk k v) (hf : FOk k f) (hl : (find v f.id).isSome = true ∨ v.length < 16) : VOk k (insertFeature f v) := by
  refine ⟨srt_ins h.srt, fun g hg => (mem_ins hg).elim (fun e => e ▸ hf) (h.all g), ?_⟩
  rw [len_ins h.srt]
  have := h.len
  rcases hl with q | q
  · rw [if_pos q]; exact h.len
  · split <;> omega
theorem vok_rem {k n : Nat} {v : Version} (h : VOk k v) : VOk k (Kvg9.removeFeature v n) :=
  ⟨srt_rem h.srt, fun g hg => h.all g (List.mem_filter.mp hg).1, Nat.le_trans (List.length_filter_le _ _) h.len⟩
theorem isA_iff {x : Int} : isAttribute x = true ↔ -1000000000 ≤ x ∧ x ≤ 1000000000 := by
  unfold isAttribute
  rw [Bool.and_eq_true, decide_eq_true_eq, decide_eq_true_eq]
theorem isV_iff {v : Vertex} : isVertex v = true ↔ (-1000000 ≤ v.1 ∧ v.1 ≤ 1000000) ∧ (-1000000 ≤ v.2 ∧ v.2 ≤ 1000000) := by
  unfold isVertex maxCoordinate
  simp only [Bool.and_eq_true, decide_eq_true_eq]
  constructor
  · rintro ⟨⟨⟨a, b⟩, c⟩, d⟩; exact ⟨⟨a, b⟩, c, d⟩
  · rintro ⟨⟨a, b⟩, c, d⟩; exact ⟨⟨⟨a, b⟩, c⟩, d⟩
/-- an edit of a feature of the working version -/
theorem Good.edit {s : Store} (G : Good s) {n : Nat} {e : Feature → Except Int (Feature × Response)} (h : ∀ f g r, find s.working n = some f → FOk s.attributeCount f → e f = .ok (g, r) → g.id = f.id ∧ FOk s.attributeCount g) : Kp s (s.edit n e).1 := by
  unfold Store.edit
  cases hf : find s.working n with
  | none => exact Kp.refl G
  | some f =>
    have fm := find_mem hf
    cases he : e f with
    | error c => simp only [he]; exact Kp.refl G
    | ok gr =>
      obtain ⟨g, r⟩ := gr
      simp only [he]
      obtain ⟨h1, h2⟩ := h f g r hf (G.wk.all f fm.1) he
      refine G.setW (vok_ins G.wk h2 (.inl ?_))
      rw [h1, fm.2, hf]; rfl
theorem head_someG {s : Store} (G : Good s) : (s.commit s.head).isSome = true := by
  obtain ⟨c, _, e⟩ := G.head
  rw [e]; rfl
theorem commonA_live {s : Store} (G : Good s) {a b : Nat} (ha : (s.commit a).isSome = true) (hb : (s.commit b).isSome = true) : (s.commit (s.commonAncestor a b)).isSome = true := by
  have e : s.commonAncestor a b = (((s.ancestors a).filter fun c => (s.ancestors b).contains c).foldl max 0) := rfl
  obtain ⟨k1, k2, k3⟩ := foldl_max_le ((s.ancestors a).filter fun c => (s.ancestors b).contains c) 0
  rw [← e] at k1 k2 k3
  rcases k3 with k3 | k3
  · rw [k3]; exact G.zero
  · have := (List.mem_filter.mp k3).1
    exact ((mem_anc G.lowP _ _).mp this).live G ha
theorem mergeB_kept {s : Store} (G : Good s) (b : Nat) (side : Option Bool) : Kp s (s.mergeBranch b side).1 := by
  unfold Store.mergeBranch
  cases hb : lookup s.branches b with
  | none => exact Kp.refl G
  | some t =>
    have ht := (G.name hb).2
    have hh := head_someG G
    dsimp only
    split
    · exact Kp.refl G
    · split
      · exact Kp.refl G
      · split
        · exact G.reset ht
        · split
          · exact Kp.refl G
          · split
            · exact Kp.refl G
            · rename_i h1 h2 h3 h4 h5
              have hca : (s.commit (s.commonAncestor s.head t)).isSome = true := commonA_live G hh ht
              obtain ⟨m1, m2⟩ := merge_vok G (sd := side.getD false) (G.verV hca) (G.verV hh) (G.verV ht)
              have hl : (Kvg9.merge (side.getD false) (s.version (s.commonAncestor s.head t)) (s.version s.head) (s.version t)).1.length ≤ 16 ∧ s.commits.length < 40 := by
                unfold maxFeatures maxCommits at h5
                omega
              refine G.append (m2 hl.1) hl.2 (Nat.le_refl 2) (by simp) fun p hp => ?_
              have : p = s.head ∨ p = t := by simpa using hp
              rcases this with q | q <;> rw [q] <;> assumption
theorem apply_kept {s : Store} (G : Good s) {a b : Nat} (ha : (s.commit a).isSome = true) (hb : (s.commit b).isSome = true) : Kp s (s.apply a b).1 := by
  unfold Store.apply
  have hh := head_someG G
  dsimp only
  split
  · exact Kp.refl G
  · split
    · exact Kp.refl G
    · split
      · exact Kp.refl G
      · rename_i h1 h2 h3
        obtain ⟨m1, m2⟩ := merge_vok G (sd := false) (G.verV ha) (G.verV hh) (G.verV hb)
        have hl : (Kvg9.merge false (s.version a) (s.version s.head) (s.version b)).1.length ≤ 16 ∧ s.commits.length < 40 := by
          unfold maxFeatures maxCommits at h3
          omega
        refine G.append (m2 hl.1) hl.2 (show 1 ≤ 2 from Nat.le_succ 1) (by simp) fun p hp => ?_
        have : p = s.head := by simpa using hp
        rw [this]; exact hh
end Pv
end
section
set_option Elab.async false
set_option linter.all false
set_option maxRecDepth 100000
set_option maxHeartbeats 2000000
namespace Pv
open Kvg9
/-- the numbers that name branches and tags are in range; no new store is asked -/
def OpOk : Operation → Prop
  | .create _ => False
  | .createBranch b => b < 4294967296
  | .setTag t _ => t < 4294967296
  | _ => True
theorem start_good {n : Nat} (h : n ≤ 8) : Good (startS n) := by
  have hc : ∀ k c, (startS n).commit k = some c → k = 0 ∧ c = ⟨[], []⟩ := fun k c e => by
    have h0 : k = 0 := by have := commit_lt e; simp [startS] at this; exact this
    subst h0
    exact ⟨rfl, (Option.some.inj e).symm⟩
  refine ⟨h, by show 1 ≤ 40; decide, rfl, fun k c e => ?_, vok_nil n, ⟨?_, fun e he => ?_, by show 1 ≤ 8; decide⟩, ⟨List.Pairwise.nil, fun e he => (by cases he), by show 0 ≤ 8; decide⟩, rfl⟩
  · obtain ⟨rfl, rfl⟩ := hc k c e
    exact ⟨by show 0 ≤ 2; decide, fun z => absurd z (Nat.lt_irrefl 0), fun p hp => (by cases hp), vok_nil n⟩
  · exact List.pairwise_singleton _ _
  · have : e = (0, 0) := by simpa [startS] using he
    rw [this]
    exact ⟨rfl, by decide⟩
theorem single_live {s : Store} (G : Good s) {c p : Nat} (h : s.singleParent c = some p) : (s.commit p).isSome = true := by
  unfold Store.singleParent at h
  cases hc : s.commit c with
  | none =>
    unfold Store.parents at h
    rw [hc] at h
    cases h
  | some cm =>
    rw [par_of hc] at h
    cases hp : cm.parents with
    | nil => rw [hp] at h; cases h
    | cons a l =>
      cases l with
      | nil =>
        rw [hp] at h
        obtain rfl : a = p := Option.some.inj h
        exact ((G.com c cm hc).low a (by rw [hp]; simp)).2
      | cons b l => rw [hp] at h; cases h
theorem swept_good {s : Store} (G : Good s) : Kp s (swept s) := by
  have sub : ∀ n c, (swept s).commit n = some c → s.commit n = some c := fun n c h => (swept_sub h).1
  have keep : ∀ e, (e ∈ s.branches ∨ e ∈ s.tags) → ∀ x, Reach s e.2 x → (s.commit x).isSome = true → ((swept s).commit x).isSome = true := fun e he x r h => by
    rw [swept_commit, if_pos ((keptB_iff G x).mpr ⟨e, he, r⟩)]; exact h
  have at1 : ∀ e, (e ∈ s.branches ∨ e ∈ s.tags) → (s.commit e.2).isSome = true ∧ e.1 < 4294967296 := fun e he => he.elim (G.br.at_ e) (G.tg.at_ e)
  refine ⟨⟨G.ac, by rw [swept_len]; exact G.n1, ?_, fun n c h => ?_, G.wk, ⟨G.br.srt, fun e he => ⟨keep e (.inl he) _ Reach.refl (at1 e (.inl he)).1, (at1 e (.inl he)).2⟩, G.br.len⟩, ⟨G.tg.srt, fun e he => ⟨keep e (.inr he) _ Reach.refl (at1 e (.inr he)).1, (at1 e (.inr he)).2⟩, G.tg.len⟩, G.cur⟩, by rw [swept_len]; exact Nat.le_succ _⟩
  · cases e : lookup s.branches s.current with
    | none => have := G.cur; rw [e] at this; cases this
    | some c =>
      have m := look_mem e
      exact keep _ (.inl m) 0 (Reach.zero G (at1 _ (.inl m)).1) G.zero
  · have g := G.com n c (sub n c h)
    exact ⟨g.two, g.some_, swept_low G h, g.ver⟩
theorem run_kept {s : Store} (G : Good s) {op : Operation} (ok : OpOk op) : Kp s (s.run op).1 := by
  cases op with
  | create n => exact ok.elim
  | putFeature id as vs =>
    simp only [Store.run]
    split
    · exact Kp.refl G
    · rename_i h
      split
      · exact Kp.refl G
      · rename_i h2
        have hA : as.all isAttribute = true := by
          cases q : as.all isAttribute with
          | true => rfl
          | false => exact absurd (by simp [q]) h
        have hV : (pairsOf vs).all isVertex = true := by
          cases q : (pairsOf vs).all isVertex with
          | true => rfl
          | false => exact absurd (by simp [q]) h
        have h65 : id ≤ 65535 := by
          rcases Nat.lt_or_ge 65535 id with q | q
          · exact absurd (.inl q) h
          · exact q
        have hal : as.length = s.attributeCount := by
          rcases Nat.decEq as.length s.attributeCount with q | q
          · exact absurd (.inr (.inl q)) h
          · exact q
        have h1 : 1 ≤ (pairsOf vs).length := by
          cases q : pairsOf vs with
          | nil => exact absurd (by simp [q]) h
          | cons a l => simp
        have h12 : (pairsOf vs).length ≤ 12 := by
          rcases Nat.lt_or_ge maxVertices (pairsOf vs).length with q | q
          · exact absurd (by simp [q]) h
          · exact q
        refine G.setW (vok_ins G.wk ⟨h65, hal, fun x hx => isA_iff.mp (List.all_eq_true.mp hA x hx), h1, h12, fun v hv => isV_iff.mp (List.all_eq_true.mp hV v hv)⟩ ?_)
        show (find s.working id).isSome = true ∨ s.working.length < 16
        cases q : find s.working id with
        | some f => exact .inl rfl
        | none =>
          refine .inr ?_
          rcases Nat.lt_or_ge s.working.length 16 with z | z
          · exact z
          · exact absurd ⟨q, z⟩ h2
  | removeFeature id =>
    simp only [Store.run]
    split
    · exact Kp.refl G
    · exact G.setW (vok_rem G.wk)
  | setAttribute id i v =>
    refine G.edit fun f g r hf fo he => ?_
    cases ha : f.attributes[i]? with
    | none => rw [ha] at he; cases he
    | some old =>
      rw [ha] at he
      dsimp only at he
      split at he
      · rename_i hv
        cases he
        refine ⟨rfl, ⟨fo.id, by show (f.attributes.set i v).length = _; rw [List.length_set]; exact fo.al, fun x hx => ?_, fo.v1, fo.v2, fo.vr⟩⟩
        rcases List.mem_or_eq_of_mem_set hx with q | q
        · exact fo.ar x q
        · rw [q]; exact isA_iff.mp hv
      · cases he
  | moveVertex id i x y =>
    refine G.edit fun f g r hf fo he => ?_
    cases ha : f.vertices[i]? with
    | none => rw [ha] at he; cases he
    | some old =>
      rw [ha] at he
      dsimp only at he
      split at he
      · rename_i hv
        cases he
        refine ⟨rfl, ⟨fo.id, fo.al, fo.ar, by show 1 ≤ (f.vertices.set i (x, y)).length; rw [List.length_set]; exact fo.v1, by show (f.vertices.set i (x, y)).length ≤ 12; rw [List.length_set]; exact fo.v2, fun z hz => ?_⟩⟩
        rcases List.mem_or_eq_of_mem_set hz with q | q
        · exact fo.vr z q
        · rw [q]; exact isV_iff.mp hv
      · cases he
  | insertVertex id i x y =>
    refine G.edit fun f g r hf fo he => ?_
    split at he
    · cases he
    · split at he
      · cases he
      · rename_i hi hv
        split at he
        · cases he
        · rename_i hl
          cases he
          have hvv : isVertex (x, y) = true := by
            cases q : isVertex (x, y) with
            | true => rfl
            | false => exact absurd q hv
          have hlen : (f.vertices.take i ++ (x, y) :: f.vertices.drop i).length = f.vertices.length + 1 := by
            rw [List.length_append, List.length_cons, List.length_take, List.length_drop]; omega
          have hl12 : f.vertices.length < 12 := Nat.lt_of_not_le hl
          refine ⟨rfl, ⟨fo.id, fo.al, fo.ar, by show 1 ≤ (f.vertices.take i ++ (x, y) :: f.vertices.drop i).length; rw [hlen]; omega, by show (f.vertices.take i ++ (x, y) :: f.vertices.drop i).length ≤ 12; rw [hlen]; omega, fun z hz => ?_⟩⟩
          rcases List.mem_append.mp hz with q | q
          · exact fo.vr z (List.mem_of_mem_take q)
          · rcases List.mem_cons.mp q with q | q
            · rw [q]; exact isV_iff.mp hvv
            · exact fo.vr z (List.mem_of_mem_drop q)
  | removeVertex id i =>
    refine G.edit fun f g r hf fo he => ?_
    split at he
    · cases he
    · split at he
      · cases he
      · rename_i hi h1
        cases he
        have hl : (f.vertices.eraseIdx i).length = f.vertices.length - 1 := by rw [List.length_eraseIdx]; split <;> omega
        have := fo.v1
        have := fo.v2
        exact ⟨rfl, ⟨fo.id, fo.al, fo.ar, by show 1 ≤ (f.vertices.eraseIdx i).length; rw [hl]; omega, by show (f.vertices.eraseIdx i).length ≤ 12; rw [hl]; omega, fun z hz => fo.vr z (List.mem_of_mem_eraseIdx hz)⟩⟩
  | getFeature c id =>
    simp only [Store.run]
    split <;> exact Kp.refl G
  | listFeatures c =>
    simp only [Store.run]
    split <;> exact Kp.refl G
  | commit =>
    simp only [Store.run]
    split
    · exact Kp.refl G
    · split
      · exact Kp.refl G
      · rename_i h1 h2
        exact G.append G.wk (Nat.lt_of_not_le h2) (by show 1 ≤ 2; decide) (by simp) fun p hp => by
          have : p = s.head := by simpa using hp
          rw [this]; exact head_someG G
  | discard => exact G.setW (G.verV (head_someG G))
  | createBranch b =>
    simp only [Store.run]
    split
    · exact Kp.refl G
    · split
      · exact Kp.refl G
      · rename_i h1 h2
        have hl : (assign b s.head s.branches).length ≤ 8 := by
          have : s.branches.length < 8 := Nat.lt_of_not_le h2
          rw [len_assign G.br.srt]
          split <;> omega
        refine ⟨G.put (nok_assign G.br ok (head_someG G) hl) G.tg ?_ G.wk, Nat.le_succ _⟩
        rw [look_assign]
        split
        · rfl
        · exact G.cur
  | switchBranch b =>
    simp only [Store.run]
    split
    · exact Kp.refl G
    · rename_i c hc
      split
      · exact Kp.refl G
      · exact ⟨G.put G.br G.tg (by rw [hc]; rfl) (G.verV (G.name hc).2), Nat.le_succ _⟩
  | deleteBranch b =>
    simp only [Store.run]
    split
    · exact Kp.refl G
    · split
      · exact Kp.refl G
      · rename_i h1 h2
        refine ⟨G.put (nok_drop G.br) G.tg ?_ G.wk, Nat.le_succ _⟩
        rw [look_drop, if_neg (fun z => h2 z.symm)]
        exact G.cur
  | resetBranch c =>
    simp only [Store.run]
    split
    · exact Kp.refl G
    · split
      · exact Kp.refl G
      · rename_i h1 h2
        exact G.reset (by cases q : (s.commit c).isSome with
          | true => rfl
          | false => exact absurd q h1)
  | setTag t c =>
    simp only [Store.run]
    split
    · exact Kp.refl G
    · split
      · exact Kp.refl G
      · rename_i h1 h2
        have hc : (s.commit c).isSome = true := by cases q : (s.commit c).isSome with
          | true => rfl
          | false => exact absurd q h1
        have hl : (assign t c s.tags).length ≤ 8 := by
          rw [len_assign G.tg.srt]
          have := G.tg.len
          split
          · exact this
          · rename_i h3
            have hn : (lookup s.tags t).isNone = true := by
              cases q : lookup s.tags t with
              | none => rfl
              | some x => rw [q] at h3; exact absurd rfl h3
            have : s.tags.length < 8 := Nat.lt_of_not_le fun z => h2 ⟨hn, z⟩
            omega
        exact ⟨G.put G.br (nok_assign G.tg ok hc hl) G.cur G.wk, Nat.le_succ _⟩
  | deleteTag t =>
    simp only [Store.run]
    split
    · exact Kp.refl G
    · exact ⟨G.put G.br (nok_drop G.tg) G.cur G.wk, Nat.le_succ _⟩
  | diff a b =>
    simp only [Store.run]
    split <;> exact Kp.refl G
  | workingDiff => exact Kp.refl G
  | merge b => exact mergeB_kept G b none
  | mergeWith b side =>
    simp only [Store.run]
    split
    · exact Kp.refl G
    · exact mergeB_kept G b _
  | revert c =>
    simp only [Store.run]
    split
    · exact Kp.refl G
    · rename_i h1
      have hc : (s.commit c).isSome = true := by cases q : (s.commit c).isSome with
        | true => rfl
        | false => exact absurd q h1
      split
      · exact Kp.refl G
      · rename_i p hp
        split
        · exact Kp.refl G
        · exact apply_kept G hc (single_live G hp)
  | cherryPick c =>
    simp only [Store.run]
    split
    · exact Kp.refl G
    · rename_i h1
      have hc : (s.commit c).isSome = true := by cases q : (s.commit c).isSome with
        | true => rfl
        | false => exact absurd q h1
      split
      · exact Kp.refl G
      · rename_i p hp
        split
        · exact Kp.refl G
        · exact apply_kept G (single_live G hp) hc
  | log c =>
    simp only [Store.run]
    split <;> exact Kp.refl G
  | commonAncestor a b =>
    simp only [Store.run]
    split <;> exact Kp.refl G
  | originOfAttribute id i =>
    simp only [Store.run]
    split
    · exact Kp.refl G
    · split <;> exact Kp.refl G
  | originOfVertices id =>
    simp only [Store.run]
    split <;> exact Kp.refl G
  | hash c =>
    simp only [Store.run]
    split <;> exact Kp.refl G
  | collectGarbage => exact swept_good G
  | matchFeatures a b t =>
    simp only [Store.run]
    split <;> exact Kp.refl G
  | getState => exact Kp.refl G
end Pv
end
section
set_option Elab.async false
set_option linter.all false
set_option maxRecDepth 100000
set_option maxHeartbeats 2000000
namespace Pv
open PySem PySem.Spec PyProof.Rows L2 Kvg9
open L2 (Dp DpAll)
variable {P : Program} {w : World} {K : PySem.W.Frag} {mg : Str → Option Value}
/-! ### the calls' numbers -/
def cntN (n : Nat) : Nat := (tv_NUMBER_COUNTS.getD n 0).toNat
theorem shape_small : ∀ n : _root_.Fin 31, PyKvg9.shape ((n.val : Nat) : Int) = some (cntN n.val, if n.val = 1 then 2 else 0) := by decide +kernel
theorem shape_none {p : Int} (h : p < 0 ∨ 30 < p) : PyKvg9.shape p = none := by
  unfold PyKvg9.shape
  repeat rw [if_neg (by omega)]
theorem shape_is {p : Int} {n k : Nat} (h : PyKvg9.shape p = some (n, k)) : ∃ j : Nat, p = (j : Int) ∧ j < 31 ∧ n = cntN j ∧ k = if j = 1 then 2 else 0 := by
  by_cases q : p < 0 ∨ 30 < p
  · rw [shape_none q] at h; cases h
  · obtain ⟨j, rfl⟩ := Int.eq_ofNat_of_zero_le (show 0 ≤ p by omega)
    have hj : j < 31 := by omega
    have := shape_small ⟨j, hj⟩
    rw [h] at this
    cases this
    exact ⟨j, rfl, hj, rfl, rfl⟩
theorem cnt_get : ∀ n : _root_.Fin 31, tv_NUMBER_COUNTS[n.val]? = some ((cntN n.val : Nat) : Int) := by decide +kernel
theorem cut_at (l : List Int) {a b : Nat} (h1 : a ≤ b) (h2 : b ≤ l.length) : cutV (l.map V.int) (some (a : Int)) (some (b : Int)) = ((l.drop a).take (b - a)).map V.int := by
  unfold cutV
  rw [HT.sIx_nat, HT.sIx_nat, List.length_map, Nat.min_eq_left (Nat.le_trans h1 h2), Nat.min_eq_left h2, ← List.map_drop, ← List.map_take]
theorem cnt_at {base : Heap} (kin : K.In base) (gl : base.Ns mainGlobals mg) (bl : ∃ mb, base.Ns builtinsNs mb ∧ ∀ x : Str, x ≠ "__name__" → mb x = bootBuiltins x) {x : Str} {vs : List He.Dv} (h : He.tupB K x vs = true) : mg x = some (.ref (He.ga K x)) := by
  have no : He.ga K x ≠ 0 := fun z => by
    unfold He.tupB at h
    rw [z] at h
    cases q : K.lookup 0 with
    | none => rw [q] at h; cases h
    | some o =>
      have e := kin 0 o q
      obtain ⟨mb, ⟨o2, es, ep, e2, hd, _⟩, _⟩ := bl
      rw [show builtinsNs = 0 from rfl, e] at e2
      cases e2
      rw [q] at h
      obtain ⟨c, d, dt, l⟩ := o
      dsimp only at hd
      subst hd
      cases c <;> cases h
  unfold He.ga at no
  cases q : PySem.W.nsIn K mainGlobals x with
  | none => rw [q] at no; exact absurd rfl no
  | some o =>
    cases o with
    | none => rw [q] at no; exact absurd rfl no
    | some v =>
      cases v with
      | ref a => exact PySem.W.mg_of kin gl (by rw [q]; unfold He.ga; rw [q])
      | _ => rw [q] at no; exact absurd rfl no
theorem pe_cnt {X : Cx} {pos : Pos} (T : Tx X.K X.mg) (hg : Gl X "NUMBER_COUNTS") : PE X (.Name "NUMBER_COUNTS" pos) (tC (.ref (He.ga X.K "NUMBER_COUNTS"))) :=
  ⟨fun pins s σ H Q I h => (pe_glob (v := .ref (He.ga X.K "NUMBER_COUNTS")) hg (cnt_at I.ok.mod.kin I.ok.mod.glob I.ok.mod.blt T.cnt) rfl).run pins s σ H Q I h⟩
theorem cnt_sq (T : Tx K mg) (H : Hp) : SqT K H (He.ga K "NUMBER_COUNTS") (tv_NUMBER_COUNTS.map V.int) := by
  have := He.tupB_ok T.cnt H
  rw [List.map_map] at this
  exact this
def spRowC : Sp := fun vs H Q _ => ∃ j : Nat, vs = [vN j] ∧ Q (vN (if j = 1 then 2 else 0)) H
theorem sc_row_count : FnScope ["number"] ["number"] (defScope s_row_count) := ⟨rfl, rfl, rfl, by decide +kernel, rfl, by decide +kernel, by decide +kernel⟩
theorem ok_row_count (T : Tx K mg) : Ok P w K mg ("row_count", none) ["number"] 1 (spRowC) := by
  refine T.ok (i := 1) (d := d_row_count) rfl rfl sc_row_count (fun vs H Q E h => ?_) (fun _ _ _ _ _ _ us hl => match us, hl with | [_], _ => rfl) (fun base tb cdv A outer s H vs Q E hr h => ?_)
  · obtain ⟨j, rfl, _⟩ := h
    rfl
  · obtain ⟨j, rfl, k⟩ := h
    have hu := hu_of hr
    refine ⟨_, (pss_cons (ps_if (pt_cmpR op_eq (pv 0) (pe_gint (T.int 96) rfl) (nomark _))
          (pss_one (ps_ret (pe_gint (T.int 97) rfl))) pss_nil)
        (pss_one (ps_ret pe_int))), ?_⟩
    refine ⟨_, rfl, rfl, _, rfl, ?_⟩
    by_cases e : j = 1
    · rw [if_pos e] at k
      exact itT (by rw [e]; rfl) k
    · rw [if_neg e] at k
      refine itF (decide_eq_false fun z => e (by injection z with z; omega)) k
/-! ### a call is read -/
def RowsAt (H : Hp) : List Addr → List (List Int) → Prop := Paired fun b r => H b = some (.lst (r.map V.int))
theorem RowsAt.same {H H' : Hp} {bs : List Addr} {rs : List (List Int)} (e : Same H H') (h : RowsAt H bs rs) : RowsAt H' bs rs := by
  unfold RowsAt at h ⊢
  induction h with
  | nil => exact .nil
  | cons h t ih => exact .cons (e _ _ h) ih
theorem RowsAt.upd {H : Hp} {a : Addr} {o : HO} {bs : List Addr} {rs : List (List Int)} (h : RowsAt H bs rs) (n : a ∉ bs) : RowsAt (upd H a o) bs rs := by
  unfold RowsAt at h ⊢
  induction h with
  | nil => exact .nil
  | @cons b r l1 l2 h t ih =>
    exact .cons (by rw [upd_ne (fun z => n (by rw [← z]; simp))]; exact h) (ih fun z => n (List.mem_cons_of_mem _ z))
theorem row_split {n : Int} {r x s : List Int} (h : PyFlat.row (n :: r) = some (x, s)) : ∃ k : Nat, n = (k : Int) ∧ k ≤ r.length ∧ x = r.take k ∧ s = r.drop k := by
  unfold PyFlat.row at h
  dsimp only at h
  split at h
  · rename_i q
    obtain ⟨k, rfl⟩ := Int.eq_ofNat_of_zero_le q.1
    have h := Option.some.inj h
    injection h with h1 h2
    exact ⟨k, rfl, by simpa using q.2, by simpa using h1.symm, by simpa using h2.symm⟩
  · cases h
theorem drop_cons {ns : List Int} {e : Nat} {n : Int} {r : List Int} (h : ns.drop e = n :: r) : e < ns.length ∧ ns[e]? = some n ∧ ns.drop (e + 1) = r ∧ r.length + e + 1 = ns.length := by
  have hl := congrArg List.length h
  rw [List.length_drop, List.length_cons] at hl
  have lt : e < ns.length := by omega
  rw [List.drop_eq_getElem_cons lt] at h
  injection h with h1 h2
  exact ⟨lt, by rw [List.getElem?_eq_getElem lt, h1], h2, by omega⟩
def spRead (K : PySem.W.Frag) : Sp := fun vs H Q _ => ∃ (c : Addr) (ns : List Int) (pos : Nat) (p : Int) (r : List Int) (cl : List (List Int)) (t : List Int),
  vs = [.ref c, vN pos] ∧ SqL K H c (ns.map V.int) ∧ ns.length ≤ 16384 ∧ ns.drop pos = p :: r ∧ PyFlat.call PyKvg9.shape (p :: r) = some (cl, t) ∧
  ∀ (q g : Addr) (H' : Hp) (bs : List Addr) (e : Nat) (xs : List Int) (rs : List (List Int)), cl = (p :: xs) :: rs → ns.drop e = t → pos < e → e ≤ ns.length → Same H H' → H g = none → H' q = some (.tup [.int p, .ref g, vN e]) → H' g = some (.lst (xs.map V.int ++ bs.map V.ref)) → RowsAt H' bs rs → Q (.ref q) H'
theorem sc_read_call : FnScope ["calls", "position", "number", "start", "end", "given", "row"] ["calls", "position"] (defScope s_read_call) := ⟨rfl, rfl, rfl, by decide +kernel, rfl, by decide +kernel, by decide +kernel⟩
theorem ok_read_call (T : Tx K mg) : Ok P w K mg ("read_call", none) ["calls", "position"] 2 (spRead K) := by
  refine T.ok (i := 0) (d := d_read_call) rfl rfl sc_read_call (fun vs H Q E h => ?_) (fun _ _ _ _ _ _ us hl => match us, hl with | [_, _], _ => rfl) (fun base tb cdv A outer s H vs Q E hr h => ?_)
  · obtain ⟨c, ns, pos, p, r, cl, t, rfl, _⟩ := h
    rfl
  · obtain ⟨c, ns, pos, p, r, cl, t, rfl, hc, hz, hd, hcl, k⟩ := h
    obtain ⟨lt, hp, hr1, hrl⟩ := drop_cons hd
    have hu := hu_of hr
    refine ⟨_, (pss_cons (ps_set (i := 2) sc_read_call.nd rfl (by first | exact Or.inl rfl | exact Or.inr rfl) (pe_ix (kIxL (K := K) rfl) (pv 0) (pv 1) (fun _ _ => rfl)))
        (pss_cons (ps_set (i := 3) sc_read_call.nd rfl (by first | exact Or.inl rfl | exact Or.inr rfl) (pe_op op_add (pv 1) pe_int))
        (pss_cons (ps_set (i := 4) sc_read_call.nd rfl (by first | exact Or.inl rfl | exact Or.inr rfl) (pe_op op_add (pv 3) (pe_ix (kIxT (K := K) rfl) (pe_cnt T rfl) (pv 2) (fun _ _ => rfl))))
        (pss_cons (ps_set (i := 5) sc_read_call.nd rfl (by first | exact Or.inl rfl | exact Or.inr rfl) (pe_slice (kSlL (K := K) rfl) (pv 0) (po_some (pv 3)) (po_some (pv 4))))
        (pss_cons (ps_for PassesOwn.never rfl (pi_range1 rfl (T.free 91) (pa_cons (pe_callO (ok_row_count T) tb (T.glo 1) hr rfl (pa_cons (pv 2) pa_nil)) pa_nil)) (pg_name (i := 6) sc_read_call.nd rfl (by first | exact Or.inl rfl | exact Or.inr rfl))
          (pss_cons (ps_set (i := 3) sc_read_call.nd rfl (by first | exact Or.inl rfl | exact Or.inr rfl) (pe_op op_add (pv 4) pe_int))
        (pss_cons (ps_set (i := 4) sc_read_call.nd rfl (by first | exact Or.inl rfl | exact Or.inr rfl) (pe_op op_add (pv 3) (pe_ix (kIxL (K := K) rfl) (pv 0) (pv 4) (fun _ _ => rfl))))
        (pss_one (ps_expr (pe_bm PySem.F.plainAttrs_list PySem.F.slot_list_append PySem.F.type_list_append mt_append (pv 5) (pa_cons (pe_slice (kSlL (K := K) rfl) (pv 0) (po_some (pv 3)) (po_some (pv 4))) pa_nil)))))))
        (pss_one (ps_ret (pe_tup (pa_cons (pv 2) (pa_cons (pv 5) (pa_cons (pv 4) pa_nil))))))))))), ?_⟩
    unfold PyFlat.call at hcl
    dsimp only at hcl
    cases hsh : PyKvg9.shape p with
    | none => rw [hsh] at hcl; cases hcl
    | some nk =>
      obtain ⟨n, kk⟩ := nk
      rw [hsh] at hcl
      dsimp only at hcl
      obtain ⟨j, rfl, hj, rfl, rfl⟩ := shape_is hsh
      by_cases hlen : r.length < cntN j
      · rw [if_pos hlen] at hcl; cases hcl
      · rw [if_neg hlen] at hcl
        refine ⟨_, rfl, _, rfl, c, _, _, _, rfl, rfl, hc, atI_nat (j := pos) (by rw [List.getElem?_map, hp]; rfl), ?_⟩
        refine ⟨_, rfl, _, _, rfl, rfl, ?_⟩
        refine ⟨_, rfl, _, rfl, _, _, _, _, rfl, rfl, cnt_sq T H, atI_nat (j := j) (by rw [List.getElem?_map, cnt_get ⟨j, hj⟩]; rfl), _, _, rfl, rfl, ?_⟩
        refine ⟨_, rfl, _, rfl, _, rfl, _, rfl, _, rfl, c, _, rfl, hc, fun g ng => ?_⟩
        have ng' : H g = none := ng
        have eg : cutV (ns.map V.int) (some ((pos : Int) + 1)) (some ((pos : Int) + 1 + (cntN j : Nat))) = ((ns.drop (pos + 1)).take (cntN j)).map V.int := by
          have := cut_at ns (a := pos + 1) (b := pos + 1 + cntN j) (Nat.le_add_right _ _) (by omega)
          rw [Nat.add_sub_cancel_left] at this
          exact this
        rw [eg, hr1]
        generalize hkk : (if j = 1 then 2 else 0 : Nat) = kk at hcl
        have kk2 : kk ≤ 2 := by rw [← hkk]; split <;> decide
        cases hrows : PyFlat.rows kk (r.drop (cntN j)) with
        | none => rw [hrows] at hcl; cases hcl
        | some rt =>
          obtain ⟨rs, t'⟩ := rt
          rw [hrows] at hcl
          dsimp only at hcl
          have hcl := Option.some.inj hcl
          injection hcl with ecl et
          subst et
          have tl : (r.take (cntN j)).length ≤ 16384 := by rw [List.length_take]; omega
          refine ⟨_, rfl, j, rfl, _, rfl, by rw [hkk]; omega, by rw [hkk]; omega, ?_⟩
          rw [hkk, Int.toNat_natCast]
          refine for_range (fun i σ H1 => ∃ (e : Nat) (bs : List Addr) (done rem : List (List Int)) (v3 v6 : Option V), σ = [some (.ref c), some (vN pos), some (vN j), v3, some (vN e), some (.ref g), v6] ∧ Same H H1 ∧ H1 g = some (.lst ((r.take (cntN j)).map V.int ++ bs.map V.ref)) ∧ RowsAt H1 bs done ∧ rs = done ++ rem ∧ PyFlat.rows (kk - i) (ns.drop e) = some (rem, t') ∧ pos < e ∧ e ≤ ns.length ∧ bs.length = i ∧ g ∉ bs) ?_ ?_ ?_
          · refine ⟨pos + 1 + cntN j, [], [], rs, _, _, rfl, same_upd ng, by rw [upd_same]; simp, .nil, rfl, ?_, by omega, by omega, rfl, by simp⟩
            rw [← List.drop_drop, hr1]
            exact hrows
          · rintro i σ H1 hi ⟨e, bs, done, rem, v3, v6, rfl, s1, hg, hbs, er, hrw, h1, h2, hbl, ngs⟩
            obtain ⟨m, hm⟩ : ∃ m, kk - i = m + 1 := ⟨kk - i - 1, by omega⟩
            rw [hm] at hrw
            unfold PyFlat.rows at hrw
            cases hde : ns.drop e with
            | nil => rw [hde] at hrw; cases hrw
            | cons n r' =>
              rw [hde] at hrw
              cases hro : PyFlat.row (n :: r') with
              | none => rw [hro] at hrw; cases hrw
              | some xs =>
                obtain ⟨x, r2⟩ := xs
                rw [hro] at hrw
                dsimp only at hrw
                obtain ⟨l, rfl, hl, rfl, rfl⟩ := row_split hro
                obtain ⟨lt2, hn, hr3, hr4⟩ := drop_cons hde
                cases hrw2 : PyFlat.rows m (r'.drop l) with
                | none => rw [hrw2] at hrw; cases hrw
                | some yt =>
                  obtain ⟨ys, t2⟩ := yt
                  rw [hrw2] at hrw
                  have hrw := Option.some.inj hrw
                  injection hrw with e1 e2
                  subst e2
                  have hc1 := s1.seq hc
                  refine ⟨_, rfl, _, _, rfl, rfl, ?_⟩
                  refine ⟨_, rfl, _, rfl, _, rfl, c, _, _, _, rfl, rfl, hc1, atI_nat (j := e) (by rw [List.getElem?_map, hn]; rfl), _, _, rfl, rfl, ?_⟩
                  refine ⟨_, rfl, .inl ⟨rfl, _, SqL.of hg⟩, _, rfl, _, rfl, _, rfl, _, rfl, _, rfl, c, _, rfl, hc1, fun b nb => ?_⟩
                  have eb : cutV (ns.map V.int) (some ((e : Int) + 1)) (some ((e : Int) + 1 + (l : Nat))) = (r'.take l).map V.int := by
                    have := cut_at ns (a := e + 1) (b := e + 1 + l) (Nat.le_add_right _ _) (by omega)
                    rw [Nat.add_sub_cancel_left, hr3] at this
                    exact this
                  rw [eb]
                  have s2 := same_upd (o := .lst ((r'.take l).map V.int)) nb
                  have hg2 := s2 _ _ hg
                  refine ⟨g, _, _, rfl, rfl, hg2, by rw [List.length_append, List.length_map, List.length_map, hbl, sizeLine_eq]; omega, ?_⟩
                  have ngb : b ≠ g := fun z => by rw [z, hg] at nb; cases nb
                  have sg : ∀ b' o, H b' = some o → b' ≠ g := fun b' o h z => by rw [z, ng'] at h; cases h
                  refine ⟨e + 1 + l, bs ++ [b], done ++ [r'.take l], ys, _, _, rfl, fun b' o h => ?_, ?_, ?_, ?_, ?_, by omega, by omega, by rw [List.length_append, hbl]; rfl, fun z => (List.mem_append.mp z).elim ngs fun z => ngb (List.mem_singleton.mp z).symm⟩
                  · rw [upd_ne (sg b' o h)]; exact s2 _ _ (s1 _ _ h)
                  · rw [upd_same, List.map_append, List.append_assoc]; rfl
                  · refine Paired.snoc ?_ (by rw [upd_ne ngb, upd_same])
                    exact (hbs.same s2).upd ngs
                  · rw [er, ← e1, List.append_assoc]; rfl
                  · rw [show kk - (i + 1) = m by omega, ← List.drop_drop, hr3]
                    exact hrw2
          · rintro σ H1 ⟨e, bs, done, rem, v3, v6, rfl, s1, hg, hbs, er, hrw, h1, h2, hbl, ngs⟩
            rw [Nat.sub_self] at hrw
            have hrw := Option.some.inj hrw
            injection hrw with e1 e2
            refine ⟨_, rfl, _, rfl, _, rfl, by show 3 ≤ sizeLine; rw [sizeLine_eq]; decide, fun q nq => ?_⟩
            have s2 := same_upd (o := .tup [vN j, .ref g, vN e]) nq
            refine k q g _ bs e (r.take (cntN j)) rs ecl.symm e2 h1 h2 (s1.trans s2) ng' upd_same (s2 _ _ hg) ?_
            rw [er, ← e1, List.append_nil]
            exact hbs.same s2
end Pv
end
section
set_option Elab.async false
set_option linter.all false
set_option maxRecDepth 100000
set_option maxHeartbeats 4000000
namespace Pv
open PySem PySem.Spec PyProof.Rows L2 Kvg9
open L2 (Dp DpAll)
variable {P : Program} {w : World} {K : PySem.W.Frag} {mg : Str → Option Value}
theorem StoreG.off {H : Hp} {a : Addr} {s : Store} {m : Mu} {av av' : List Addr} (k : ∀ b ∈ av', b ∈ av ∨ H b = none) (S : StoreG K H a s m av) : StoreG K H a s m av' :=
  ⟨S.ob, let ⟨kv, h1, h2⟩ := S.cm; ⟨kv, h1, h2.off k⟩, S.br, S.tg, S.wk, S.ap⟩
/-- a thing that stands apart from the store is written -/
theorem StoreG.updW {H : Hp} {a W : Addr} {s : Store} {m : Mu} {av : List Addr} {o u : HO} (S : StoreG K H a s m av) (hv : W ∈ av) (hW : W ∉ m.av a) (h : H W = some u) (t : isTup u = false) : StoreG K (upd H W o) a s m av := by
  obtain ⟨⟨dx, fs, h1, F⟩, ⟨kc, h2, C⟩, ⟨kb, h3, B⟩, ⟨kt, h4, T⟩, ⟨kw, h5, D⟩, A⟩ := S
  have ne : ∀ b ∈ m.av a, b ≠ W := fun b hb z => hW (z ▸ hb)
  exact ⟨⟨dx, fs, by rw [upd_ne (ne _ av_a)]; exact h1, F⟩, ⟨kc, by rw [upd_ne (ne _ av_c)]; exact h2, C.keep (fun b x e hb _ => by rw [upd_ne (show b ≠ W from fun z => hb (by rw [z]; exact hv))]; exact e) (Tup.upd h t)⟩, ⟨kb, by rw [upd_ne (ne _ av_b)]; exact h3, B⟩, ⟨kt, by rw [upd_ne (ne _ av_t)]; exact h4, T⟩, ⟨kw, by rw [upd_ne (ne _ av_w)]; exact h5, D.tup (Tup.upd h t)⟩, A⟩
/-! ### create -/
def spCreate (K : PySem.W.Frag) : Sp := fun vs H Q _ => ∃ (ss g dx : Addr) (v : V) (n : Nat), vs = [.ref ss, .ref g] ∧ H ss = some (.ins (cSes K) dx [("store", v)]) ∧ H g = some (.lst [vN n]) ∧
  (8 < n → ∀ r, H r = none → Q (.ref r) (upd H r (.lst [.int (-22)]))) ∧
  (n ≤ 8 → ∀ (r a : Addr) (H' : Hp) (m : Mu), H' ss = some (.ins (cSes K) dx [("store", .ref a)]) → StoreAt K H' a (startS n) m → (∀ Ws : List Addr, (∀ W ∈ Ws, H W ≠ none) → StoreG K H' a (startS n) m (Ws ++ m.av a)) → Off ss H H' → (∀ b ∈ m.av a, H b = none) → H r = none → r ∉ m.av a → H' r = some (.lst [.int 0]) → Q (.ref r) H')
theorem sc_create : FnScope ["session", "given", "attribute_count"] ["session", "given"] (defScope s_create) := ⟨rfl, rfl, rfl, by decide +kernel, rfl, by decide +kernel, by decide +kernel⟩
theorem ok_create (T : Tx K mg) : Ok P w K mg ("create", none) ["session", "given"] 7 (spCreate K) := by
  refine T.ok (i := 78) (d := d_create) rfl rfl sc_create (fun vs H Q E h => ?_) (fun _ _ _ _ _ _ us hl => match us, hl with | [_, _], _ => rfl) (fun base tb cdv A outer s H vs Q E hr h => ?_)
  · obtain ⟨ss, g, dx, v, n, rfl, _⟩ := h
    rfl
  · obtain ⟨ss, g, dx, v, n, rfl, h1, h2, k1, k2⟩ := h
    have hu := hu_of hr
    refine ⟨_, (pss_cons (ps_set (i := 2) sc_create.nd rfl (by first | exact Or.inl rfl | exact Or.inr rfl) (pe_ix (kIxL (K := K) rfl) (pv 1) pe_int (fun _ _ => rfl)))
        (pss_cons (ps_if (pt_cmpR op_gt (pv 2) (pe_gint (T.int 98) rfl) (nomark _))
          (pss_one (ps_ret (pe_lst (pa_cons (pe_gint (T.int 113) rfl) pa_nil)))) pss_nil)
        (pss_cons (ps_fld (pv 0) (pe_makeO (ok_Store_init T) tb (T.mkr 146) (T.glo 81) hr rfl (pa_cons (pv 2) pa_nil)) rfl)
        (pss_one (ps_ret (pe_lst (pa_cons pe_int pa_nil))))))), ?_⟩
    refine ⟨_, rfl, g, _, _, _, rfl, rfl, SqL.of h2, atI_nat (j := 0) rfl, ?_⟩
    refine ⟨_, rfl, _, _, rfl, rfl, _, rfl, ?_⟩
    by_cases h8 : 8 < n
    · refine itT (decide_eq_true (by omega)) ?_
      exact ⟨by show 1 ≤ sizeLine; rw [sizeLine_eq]; decide, fun r nr => k1 h8 r nr⟩
    · refine itF (decide_eq_false (by omega)) ?_
      have h8 : n ≤ 8 := by omega
      refine ⟨_, rfl, fun a dy na ndy nady => ⟨a, dy, n, rfl, upd_same, h8, fun H8 m sep S8 off hm => ⟨rfl, ?_⟩⟩⟩
      have na' : H a = none := na
      have nss : ss ≠ a := fun z => by rw [z, na'] at h1; cases h1
      have ih : ∀ {W : Addr} {o : HO}, H W = some o → (upd (upd H dy (HO.own a)) a (.ins (cSto K) dy [])) W = some o := fun {W o} hW => by
        rw [upd_ne (ne_of_none hW na), upd_ne (ne_of_none hW ndy)]; exact hW
      have fr : ∀ {b : Addr}, (upd (upd H dy (HO.own a)) a (.ins (cSto K) dy [])) b = none → H b = none := fun {b} hb => by
        cases q : H b with
        | none => rfl
        | some o => rw [ih q] at hb; cases hb
      have h8s : H8 ss = some (.ins (cSes K) dx [("store", v)]) := off.st _ _ (ih h1) nss
      have hma : ∀ b ∈ m.av a, H b = none := fun b hb => (hm b hb).elim (fun z => z ▸ na') fr
      have ssm : ss ∉ m.av a := fun z => by rw [hma _ z] at h1; cases h1
      refine ⟨_, rfl, ss, _, dx, _, rfl, h8s, (T.cls 164), (T.noat 166), by show 1 < 1000; decide, ?_⟩
      have ep : putF ("store" : Str) (V.ref a) [(("store" : Str), v)] = ([("store", V.ref a)] : List (Str × V)) := rfl
      rw [ep]
      have sep2 : ∀ Ws : List Addr, (∀ W ∈ Ws, H W ≠ none) → StoreG K (upd H8 ss (.ins (cSes K) dx [("store", V.ref a)])) a (startS n) m (Ws ++ m.av a) := fun Ws hW => by
        have S9 := sep (ss :: Ws) (fun W hw => by
          have : H W ≠ none := (List.mem_cons.mp hw).elim (fun z => by rw [z, h1]; exact fun q => by cases q) (hW W)
          cases q : H W with
          | none => exact absurd q this
          | some o => exact fun z => by have := (ih q).symm.trans z; cases this)
        exact (S9.updW (o := .ins (cSes K) dx [("store", V.ref a)]) (by simp) ssm h8s rfl).off fun b hb => .inl (List.mem_cons_of_mem _ hb)
      refine ⟨by show 1 ≤ sizeLine; rw [sizeLine_eq]; decide, fun r nr => ?_⟩
      have s9 := same_upd (o := .lst [V.int 0]) nr
      have n8 : H8 r = none := by
        by_cases z : r = ss
        · rw [z, upd_same] at nr; cases nr
        · rw [upd_ne z] at nr; exact nr
      have nrH : H r = none := fr (off.al _ n8)
      have S9 : StoreAt K (upd H8 ss (.ins (cSes K) dx [("store", V.ref a)])) a (startS n) m := sep2 [] (fun _ h => by cases h)
      refine k2 h8 r a _ m (s9 _ _ upd_same) (S9.same s9) (fun Ws hW => (sep2 Ws hW).same s9) ⟨fun b o hb n => ?_, fun b hb => ?_⟩ hma nrH (StoreG.new_off (H' := H8) S9 nr) upd_same
      · exact s9 _ _ (by rw [upd_ne n]; exact off.st _ _ (ih hb) (fun z => by rw [z, na'] at hb; cases hb))
      · have hb := s9.free hb
        by_cases z : b = ss
        · rw [z, upd_same] at hb; cases hb
        · rw [upd_ne z] at hb; exact fr (off.al _ hb)
/-! ### the table of operations -/
def opL : List (Nat × Str) := [(1, "put_feature"), (2, "remove_feature"), (3, "set_attribute"), (4, "move_vertex"), (5, "insert_vertex"), (6, "remove_vertex"), (7, "get_feature"), (8, "list_features"), (9, "commit"), (10, "discard"), (11, "create_branch"), (12, "switch_branch"), (13, "delete_branch"), (14, "reset_branch"), (15, "set_tag"), (16, "delete_tag"), (17, "diff"), (18, "working_diff"), (19, "merge"), (20, "merge_with"), (21, "revert"), (22, "cherry_pick"), (23, "log"), (24, "common_ancestor"), (25, "origin_of_attribute"), (26, "origin_of_vertices"), (27, "hash_of_commit"), (28, "collect_garbage"), (29, "match_features"), (30, "get_state")]
def opT (K : PySem.W.Frag) : List (Key × V) := opL.map fun e => (kI e.1, V.ref (He.ga K e.2))
def opE (K : PySem.W.Frag) (l : List (Nat × Str)) : List (TE × TE) := l.map fun e => (tC (vN e.1), tC (.ref (He.ga K e.2)))
theorem tStore_all {d : Addr} {σ : L2.St} {Q : Hp → Prop} : ∀ (l : List (Nat × Str)) (H : Hp) (kvs : List (Key × V)), H d = some (.dK kvs) → kvs.length + l.length < 100 → (∀ H', (∀ b, b ≠ d → H' b = H b) → H' d = some (.dK (mergeK kvs (l.map fun e => (kI e.1, V.ref (He.ga K e.2))))) → Q H') → tStore d (opE K l) σ H Q
  | [], H, kvs, h, hl, k => k H (fun _ _ => rfl) h
  | e :: l, H, kvs, h, hl, k => by
    rw [List.length_cons] at hl
    refine ⟨kvs, kI e.1, rfl, h, by omega, tStore_all l _ (putK kvs (kI e.1) (.ref (He.ga K e.2))) upd_same ?_ fun H' h1 h2 => k H' (fun b hb => ?_) h2⟩
    · have := length_putK kvs (kI e.1) (V.ref (He.ga K e.2))
      omega
    · rw [h1 b hb, upd_ne hb]
theorem tPairs_all {σ : L2.St} {H : Hp} : ∀ (l : List (Nat × Str)) (Q : List (V × V) → Hp → Prop), Q (l.map fun e => (vN e.1, V.ref (He.ga K e.2))) H → tPairs (opE K l) σ H Q
  | [], Q, h => h
  | e :: l, Q, h => tPairs_all l (fun ps H3 => Q ((vN e.1, V.ref (He.ga K e.2)) :: ps) H3) h
def dispK : Expr → List (Option Expr)
  | .Dict ks _ _ => ks
  | _ => []
def dispV : Expr → List Expr
  | .Dict _ vs _ => vs
  | _ => []
def dispP : Expr → Pos
  | .Dict _ _ p => p
  | _ => ⟨0, 0, 0, 0⟩
abbrev xOps : Expr := retE ((defBody s_operations_by_number).getLastD s_operations_by_number)
def spOps (K : PySem.W.Frag) : Sp := fun vs H Q _ => vs = [] ∧ ∀ p H', Same H H' → H p = none → H' p = some (.dK (opT K)) → Q (.ref p) H'
theorem sc_operations_by_number : FnScope [] [] (defScope s_operations_by_number) := ⟨rfl, rfl, rfl, by decide +kernel, rfl, by decide +kernel, by decide +kernel⟩
theorem ok_operations_by_number (T : Tx K mg) : Ok P w K mg ("operations_by_number", none) [] 1 (spOps K) := by
  refine T.ok (i := 79) (d := d_operations_by_number) rfl rfl sc_operations_by_number (fun vs H Q E h => ?_) (fun _ _ _ _ _ _ us hl => match us, hl with | [], _ => rfl) (fun base tb cdv A outer s H vs Q E hr h => ?_)
  · obtain ⟨rfl, _⟩ := h
    rfl
  · obtain ⟨rfl, k⟩ := h
    have p2 := pe_disp2 (X := (cxOf CX0 P w K mg base [] "operations_by_number" (defScope s_operations_by_number) (He.fAd K ("operations_by_number", none)) cdv A outer s H E0).nox) (pos := dispP xOps) (k1 := (dispK xOps).take 17) (k2 := (dispK xOps).drop 17) (v1 := (dispV xOps).take 17) (v2 := (dispV xOps).drop 17) (t1 := opE K (opL.take 17)) (t2 := opE K (opL.drop 17))
      (psto_cons pe_int (pe_gdef (K := K) (T.glo 36) rfl) (psto_cons pe_int (pe_gdef (K := K) (T.glo 37) rfl) (psto_cons pe_int (pe_gdef (K := K) (T.glo 38) rfl) (psto_cons pe_int (pe_gdef (K := K) (T.glo 39) rfl) (psto_cons pe_int (pe_gdef (K := K) (T.glo 40) rfl) (psto_cons pe_int (pe_gdef (K := K) (T.glo 41) rfl) (psto_cons pe_int (pe_gdef (K := K) (T.glo 62) rfl) (psto_cons pe_int (pe_gdef (K := K) (T.glo 63) rfl) (psto_cons pe_int (pe_gdef (K := K) (T.glo 11) rfl) (psto_cons pe_int (pe_gdef (K := K) (T.glo 12) rfl) (psto_cons pe_int (pe_gdef (K := K) (T.glo 57) rfl) (psto_cons pe_int (pe_gdef (K := K) (T.glo 58) rfl) (psto_cons pe_int (pe_gdef (K := K) (T.glo 59) rfl) (psto_cons pe_int (pe_gdef (K := K) (T.glo 13) rfl) (psto_cons pe_int (pe_gdef (K := K) (T.glo 60) rfl) (psto_cons pe_int (pe_gdef (K := K) (T.glo 61) rfl) (psto_cons pe_int (pe_gdef (K := K) (T.glo 22) rfl) (psto_nil))))))))))))))))))
      (pps_cons pe_int (pe_gdef (K := K) (T.glo 23) rfl) (pps_cons pe_int (pe_gdef (K := K) (T.glo 47) rfl) (pps_cons pe_int (pe_gdef (K := K) (T.glo 48) rfl) (pps_cons pe_int (pe_gdef (K := K) (T.glo 51) rfl) (pps_cons pe_int (pe_gdef (K := K) (T.glo 52) rfl) (pps_cons pe_int (pe_gdef (K := K) (T.glo 69) rfl) (pps_cons pe_int (pe_gdef (K := K) (T.glo 70) rfl) (pps_cons pe_int (pe_gdef (K := K) (T.glo 71) rfl) (pps_cons pe_int (pe_gdef (K := K) (T.glo 72) rfl) (pps_cons pe_int (pe_gdef (K := K) (T.glo 75) rfl) (pps_cons pe_int (pe_gdef (K := K) (T.glo 14) rfl) (pps_cons pe_int (pe_gdef (K := K) (T.glo 24) rfl) (pps_cons pe_int (pe_gdef (K := K) (T.glo 64) rfl) (pps_nil)))))))))))))) rfl rfl rfl rfl rfl (by decide) (by decide)
    refine ⟨_, pss_one (ps_ret p2), ?_⟩
    refine fun p np => tStore_all (opL.take 17) _ [] upd_same (by decide) fun H1 e1 e2 => fun q nq => tPairs_all (opL.drop 17) _ ?_
    have npq : p ≠ q := fun z => by rw [z, nq] at e2; cases e2
    have m1 : mergeK [] ((opL.drop 17).map fun e => (kI e.1, V.ref (He.ga K e.2))) = (opL.drop 17).map fun e => (kI e.1, V.ref (He.ga K e.2)) := by kernel_rfl
    have m2 : mergeK (mergeK [] ((opL.take 17).map fun e => (kI e.1, V.ref (He.ga K e.2)))) ((opL.drop 17).map fun e => (kI e.1, V.ref (He.ga K e.2))) = opT K := by kernel_rfl
    refine ⟨npq, upd_same, (opL.drop 17).map fun e => (kI e.1, V.ref (He.ga K e.2)), _, rfl, by show 13 ≤ 15; decide, by rw [upd_ne npq]; exact e2, ?_, ?_, ?_⟩
    · intro z
      have : (mergeK [] ((opL.take 17).map fun e => (kI e.1, V.ref (He.ga K e.2)))).length = 17 := by kernel_rfl
      rw [z] at this
      cases this
    · have : (mergeK [] ((opL.take 17).map fun e => (kI e.1, V.ref (He.ga K e.2)))).length = 17 := by kernel_rfl
      omega
    · rw [m1, m2]
      refine k p _ (fun b o hb => ?_) np upd_same
      have n1 := ne_of_none hb np
      have h1 : H1 b = some o := by rw [e1 b n1, upd_ne n1]; exact hb
      have n2 : b ≠ q := fun z => by rw [z, nq] at h1; cases h1
      rw [upd_ne n1, upd_ne n2, upd_ne n2]
      exact h1
/-! ### the operations by their names -/
def spL (K : PySem.W.Frag) : List (Str × Sp) := [
  ("put_feature", spRun K gPut (fun x => x.2.1.length ≤ 30 ∧ x.2.2.length ≤ 30) (fun x => Operation.putFeature x.1 x.2.1 x.2.2)),
  ("remove_feature", spRun K g1 nat32 Operation.removeFeature),
  ("set_attribute", spRun K g3i (fun _ => True) (fun x => Operation.setAttribute x.1 x.2.1 x.2.2)),
  ("move_vertex", spRun K g4i (fun _ => True) (fun x => Operation.moveVertex x.1 x.2.1 x.2.2.1 x.2.2.2)),
  ("insert_vertex", spRun K g4i (fun _ => True) (fun x => Operation.insertVertex x.1 x.2.1 x.2.2.1 x.2.2.2)),
  ("remove_vertex", spRun K g2 (fun _ => True) (fun x => Operation.removeVertex x.1 x.2)),
  ("get_feature", spRun K g2 (fun _ => True) (fun x => Operation.getFeature x.1 x.2)),
  ("list_features", spRun K g1 (fun _ => True) Operation.listFeatures),
  ("commit", spRun K g0 (fun _ => True) (fun _ => Operation.commit)),
  ("discard", spRun K g0 (fun _ => True) (fun _ => Operation.discard)),
  ("create_branch", spRun K g1 (fun _ => True) Operation.createBranch),
  ("switch_branch", spRun K g1 (fun _ => True) Operation.switchBranch),
  ("delete_branch", spRun K g1 (fun _ => True) Operation.deleteBranch),
  ("reset_branch", spRun K g1 (fun _ => True) Operation.resetBranch),
  ("set_tag", spRun K g2 (fun _ => True) (fun x => Operation.setTag x.1 x.2)),
  ("delete_tag", spRun K g1 (fun _ => True) Operation.deleteTag),
  ("diff", spRun K g2 (fun _ => True) (fun x => Operation.diff x.1 x.2)),
  ("working_diff", spRun K g0 (fun _ => True) (fun _ => Operation.workingDiff)),
  ("merge", spRun K g1 (fun _ => True) Operation.merge),
  ("merge_with", spRun K g2 (fun _ => True) (fun x => Operation.mergeWith x.1 x.2)),
  ("revert", spRun K g1 (fun _ => True) Operation.revert),
  ("cherry_pick", spRun K g1 (fun _ => True) Operation.cherryPick),
  ("log", spRun K g1 (fun _ => True) Operation.log),
  ("common_ancestor", spRun K g2 (fun _ => True) (fun x => Operation.commonAncestor x.1 x.2)),
  ("origin_of_attribute", spRun K g2 (fun _ => True) (fun x => Operation.originOfAttribute x.1 x.2)),
  ("origin_of_vertices", spRun K g1 (fun _ => True) (fun x => Operation.originOfVertices x)),
  ("hash_of_commit", spRun K g1 (fun _ => True) Operation.hash),
  ("collect_garbage", spRun K g0 (fun _ => True) (fun _ => Operation.collectGarbage)),
  ("match_features", spRun K g3 (fun x => x.2.2 < 4294967296) (fun x => Operation.matchFeatures x.1 x.2.1 x.2.2)),
  ("get_state", spRun K g0 (fun _ => True) (fun _ => Operation.getState))]
theorem held_all (T : Tx K mg) {base : Heap} (tb : Tb K mg base) : ∀ f sp, tabS K (spL K) f = some sp → Held P w K mg base 8 f sp := by
  intro f sp h
  obtain ⟨x, m, rfl⟩ := tabS_of h
  clear h
  unfold spL at m
  rcases List.mem_cons.mp m with m | m
  · cases m
    exact (ok_put_feature T).held tb (by decide)
  rcases List.mem_cons.mp m with m | m
  · cases m
    exact (ok_remove_feature T).held tb (by decide)
  rcases List.mem_cons.mp m with m | m
  · cases m
    exact (ok_set_attribute T).held tb (by decide)
  rcases List.mem_cons.mp m with m | m
  · cases m
    exact (ok_move_vertex T).held tb (by decide)
  rcases List.mem_cons.mp m with m | m
  · cases m
    exact (ok_insert_vertex T).held tb (by decide)
  rcases List.mem_cons.mp m with m | m
  · cases m
    exact (ok_remove_vertex T).held tb (by decide)
  rcases List.mem_cons.mp m with m | m
  · cases m
    exact (ok_get_feature T).held tb (by decide)
  rcases List.mem_cons.mp m with m | m
  · cases m
    exact (ok_list_features T).held tb (by decide)
  rcases List.mem_cons.mp m with m | m
  · cases m
    exact (ok_commit T).held tb (by decide)
  rcases List.mem_cons.mp m with m | m
  · cases m
    exact (ok_discard T).held tb (by decide)
  rcases List.mem_cons.mp m with m | m
  · cases m
    exact (ok_create_branch T).held tb (by decide)
  rcases List.mem_cons.mp m with m | m
  · cases m
    exact (ok_switch_branch T).held tb (by decide)
  rcases List.mem_cons.mp m with m | m
  · cases m
    exact (ok_delete_branch T).held tb (by decide)
  rcases List.mem_cons.mp m with m | m
  · cases m
    exact (ok_reset_branch T).held tb (by decide)
  rcases List.mem_cons.mp m with m | m
  · cases m
    exact (ok_set_tag T).held tb (by decide)
  rcases List.mem_cons.mp m with m | m
  · cases m
    exact (ok_delete_tag T).held tb (by decide)
  rcases List.mem_cons.mp m with m | m
  · cases m
    exact (ok_diff T).held tb (by decide)
  rcases List.mem_cons.mp m with m | m
  · cases m
    exact (ok_working_diff T).held tb (by decide)
  rcases List.mem_cons.mp m with m | m
  · cases m
    exact (ok_merge T).held tb (by decide)
  rcases List.mem_cons.mp m with m | m
  · cases m
    exact (ok_merge_with T).held tb (by decide)
  rcases List.mem_cons.mp m with m | m
  · cases m
    exact (ok_revert T).held tb (by decide)
  rcases List.mem_cons.mp m with m | m
  · cases m
    exact (ok_cherry_pick T).held tb (by decide)
  rcases List.mem_cons.mp m with m | m
  · cases m
    exact (ok_log T).held tb (by decide)
  rcases List.mem_cons.mp m with m | m
  · cases m
    exact (ok_common_ancestor T).held tb (by decide)
  rcases List.mem_cons.mp m with m | m
  · cases m
    exact (ok_origin_of_attribute T).held tb (by decide)
  rcases List.mem_cons.mp m with m | m
  · cases m
    exact (ok_origin_of_vertices T).held tb (by decide)
  rcases List.mem_cons.mp m with m | m
  · cases m
    exact (ok_hash_of_commit T).held tb (by decide)
  rcases List.mem_cons.mp m with m | m
  · cases m
    exact (ok_collect_garbage T).held tb (by decide)
  rcases List.mem_cons.mp m with m | m
  · cases m
    exact (ok_match_features T).held tb (by decide)
  rcases List.mem_cons.mp m with m | m
  · cases m
    exact (ok_get_state T).held tb (by decide)
  cases m
end Pv
end
section
set_option Elab.async false
set_option linter.all false
set_option maxRecDepth 100000
set_option maxHeartbeats 4000000
namespace Pv
open PySem PySem.Spec PyProof.Rows L2 Kvg9
open L2 (Dp DpAll)
variable {P : Program} {w : World} {K : PySem.W.Frag} {mg : Str → Option Value}
/-! ### one call is answered -/
def oav : Option (Addr × Mu) → List Addr
  | none => []
  | some p => p.2.av p.1
def sesV : Option (Addr × Mu) → V
  | none => .non
  | some p => .ref p.1
/-- the session's object and its store -/
structure SesAt (K : PySem.W.Frag) (H : Hp) (ss dx : Addr) (st : State) (am : Option (Addr × Mu)) : Prop where
  tabs : Tabs K H
  ob : H ss = some (.ins (cSes K) dx [("store", sesV am)])
  st : match st, am with
    | none, none => True
    | some s, some p => StoreAt K H p.1 s p.2 ∧ Good s ∧ ss ∉ p.2.av p.1
    | _, _ => False
structure FrS (H : Hp) (ss : Addr) (am : Option (Addr × Mu)) (H' : Hp) (am' : Option (Addr × Mu)) : Prop where
  st : ∀ b o, H b = some o → b ≠ ss → b ∉ oav am → (∀ ps, o ≠ .tbl ps) → H' b = some o
  al : ∀ b, H' b = none → H b = none
  nw : ∀ b ∈ oav am', b ∈ oav am ∨ H b = none
def isCreate : Operation → Bool
  | .create _ => true
  | _ => false
def Asks (K : PySem.W.Frag) (j : Nat) (op : Operation) (xs : List V) (H : Hp) : Prop :=
  (j = 0 ∧ ∃ n, op = .create n ∧ xs = [vN n]) ∨ (j ≠ 0 ∧ isCreate op = false ∧ OpOk op ∧ ∃ (x : Str) (A : Type) (giv : A → List V → Hp → Prop) (ok : A → Prop) (opf : A → Operation) (y : A), (j, x) ∈ opL ∧ (x, spRun K giv ok opf) ∈ spL K ∧ giv y xs H ∧ ok y ∧ op = opf y)
def spAC (K : PySem.W.Frag) : Sp := fun vs H Q _ => ∃ (ss ops g dx : Addr) (j : Nat) (op : Operation) (xs : List V) (st : State) (am : Option (Addr × Mu)),
  vs = [.ref ss, .ref ops, vN j, .ref g] ∧ H ops = some (.dK (opT K)) ∧ H g = some (.lst xs) ∧ SesAt K H ss dx st am ∧ Asks K j op xs H ∧
  ∀ (r : Addr) (H' : Hp) (am' : Option (Addr × Mu)), SesAt K H' ss dx (execute st op).1 am' → FrS H ss am H' am' →
    (∀ n a m, op = .create n → n ≤ 8 → am' = some (a, m) → ∀ Ws : List Addr, (∀ W ∈ Ws, H W ≠ none) → StoreG K H' a (startS n) m (Ws ++ m.av a)) →
    H r = none → r ∉ oav am' → H' r = some (.lst ((Kvg9Neutral.resultRow (execute st op).2).map V.int)) → Q (.ref r) H'
theorem exec_none {op : Operation} (h : isCreate op = false) : execute none op = (none, .error (-11)) := by
  cases op <;> first | rfl | cases h
theorem exec_some {s : Store} {op : Operation} : execute (some s) op = (some (s.run op).1, (s.run op).2) := by
  cases op <;> rfl
theorem exec_create {st : State} {n : Nat} : execute st (.create n) = if 8 < n then (st, .error (-22)) else (some (startS n), .number 0) := by
  by_cases h : 8 < n
  · rw [if_pos h]
    cases st with
    | none => simp [execute, Store.run, h, Response.error]
    | some s => simp [execute, Store.run, h, Response.error]
  · rw [if_neg h]
    cases st with
    | none => simp [execute, Store.run, h, Response.number, startS]
    | some s => simp [execute, Store.run, h, Response.number, startS]
theorem Tabs.same {H H' : Hp} (e : Same H H') (t : Tabs K H) : Tabs K H' := fun p hp => (t p hp).ext fun b o h => e b o h
theorem SesAt.same {H H' : Hp} {ss dx : Addr} {st : State} {am : Option (Addr × Mu)} (e : Same H H') (S : SesAt K H ss dx st am) : SesAt K H' ss dx st am := by
  refine ⟨S.tabs.same e, e _ _ S.ob, ?_⟩
  have := S.st
  revert this
  cases st <;> cases am <;> intro h
  · exact h
  · exact h
  · exact h
  · exact ⟨h.1.same e, h.2⟩
theorem SesAt.off {H : Hp} {ss dx : Addr} {st : State} {am : Option (Addr × Mu)} (S : SesAt K H ss dx st am) {r : Addr} (h : H r = none) : r ∉ oav am := by
  have := S.st
  revert this
  cases st <;> cases am <;> intro q
  · exact fun z => by cases z
  · exact q.elim
  · exact q.elim
  · exact StoreG.new_off (H' := H) q.1 h
theorem FrS.of_same {H H' : Hp} {ss : Addr} {am : Option (Addr × Mu)} (e : Same H H') : FrS H ss am H' am := ⟨fun b o h _ _ _ => e b o h, fun _ h => e.free h, fun _ h => .inl h⟩
theorem opL_get {j : Nat} {x : Str} (h : (j, x) ∈ opL) : valV (opT K) (kI j) = some (.ref (He.ga K x)) := by
  have nd : ((opT K).map (·.1)).Nodup := by
    have : (opT K).map (·.1) = opL.map fun e => kI e.1 := rfl
    rw [this]
    decide +kernel
  exact valV_mem nd (p := (kI j, .ref (He.ga K x))) (List.mem_map.mpr ⟨_, h, rfl⟩)
theorem spL_nd : ((spL K).map (·.1)).Nodup := by
  have : (spL K).map (·.1) = opL.map (·.2) := rfl
  rw [this]
  decide +kernel
theorem spL_def : ∀ x ∈ (spL K).map (·.1), isDef x = true := by
  have : (spL K).map (·.1) = opL.map (·.2) := rfl
  rw [this]
  decide +kernel
theorem sc_answer_call : FnScope ["session", "operations", "number", "given", "operation"] ["session", "operations", "number", "given"] (defScope s_answer_call) := ⟨rfl, rfl, rfl, by decide +kernel, rfl, by decide +kernel, by decide +kernel⟩
theorem ok_answer_call (T : Tx K mg) : Ok P w K mg ("answer_call", none) ["session", "operations", "number", "given"] 9 (spAC K) := by
  refine T.ok (i := 77) (d := d_answer_call) rfl rfl sc_answer_call (fun vs H Q E h => ?_) (fun _ _ _ _ _ _ us hl => match us, hl with | [_, _, _, _], _ => rfl) (fun base tb cdv A outer s H vs Q E hr h => ?_)
  · obtain ⟨ss, ops, g, dx, j, op, xs, st, am, rfl, _⟩ := h
    rfl
  · obtain ⟨ss, ops, g, dx, j, op, xs, st, am, rfl, ho, hg, S, hA, k⟩ := h
    have HELD := held_all (P := P) (w := w) T tb
    have hu := hu_of hr
    refine ⟨_, (pss_cons (ps_if (pt_cmpR op_eq (pv 2) (pe_gint (T.int 138) rfl) (nomark _))
          (pss_one (ps_ret (pe_callO (ok_create T) tb (T.glo 78) hr rfl (pa_cons (pv 0) (pa_cons (pv 3) pa_nil))))) pss_nil)
        (pss_cons (ps_if (pt_cmpR op_isN (pe_fld (pv 0) rfl) pe_non (nomark _))
          (pss_one (ps_ret (pe_lst (pa_cons (pe_gint (T.int 110) rfl) pa_nil)))) pss_nil)
        (pss_cons (ps_set (i := 4) sc_answer_call.nd rfl (by first | exact Or.inl rfl | exact Or.inr rfl) (pe_dget hu (pv 1) (pv 2) (fun _ _ => rfl)))
        (pss_one (ps_ret (pe_callA (i := 4) HELD hr rfl (by first | exact Or.inl rfl | exact Or.inr (Or.inl rfl)) (pa_cons (pe_fld (pv 0) rfl) (pa_cons (pv 3) pa_nil)))))))), ?_⟩
    refine ⟨_, rfl, rfl, _, rfl, ?_⟩
    rcases hA with ⟨rfl, n, rfl, rfl⟩ | ⟨hj, hop, hok, x, A', giv, ok, opf, y, hx, hsp, hgv, hy, rfl⟩
    · refine itT rfl ?_
      rw [exec_create] at k
      refine ⟨_, rfl, _, rfl, ss, g, dx, _, n, rfl, S.ob, hg, fun h8 r nr => ?_, fun h8 r a H' m h1 S1 sep off hm nr nra hr => ?_⟩
      · rw [if_pos h8] at k
        have s1 := same_upd (o := .lst [V.int (-22)]) nr
        exact k r _ am (S.same s1) (FrS.of_same s1) (fun n' a m e h => by cases e; omega) nr (S.off nr) upd_same
      · rw [if_neg (by omega)] at k
        refine k r H' (some (a, m)) ⟨?_, h1, S1, start_good h8, fun z => ?_⟩ ⟨fun b o hb n _ _ => off.st b o hb n, off.al, fun b hb => .inr (hm b hb)⟩ (fun n' a' m' e h e2 Ws hW => ?_) nr nra hr
        · exact fun p hp => by
            obtain ⟨ps, q1, q2, q3⟩ := S.tabs p hp
            refine ⟨ps, off.st _ _ q1 (fun z => ?_), q2, fun pos cv hc => ?_⟩
            · have := S.ob
              rw [← z, q1] at this
              cases this
            · obtain ⟨c, e1, e2⟩ := q3 pos cv hc
              refine ⟨c, e1, off.st _ _ e2 (fun z => ?_)⟩
              have := S.ob
              rw [← z, e2] at this
              unfold LamX.CodeO at this
              cases this
        · have := hm ss z
          rw [S.ob] at this
          cases this
        · cases e
          cases e2
          exact sep Ws hW
    · refine itF (decide_eq_false fun z => hj (by injection z with z; omega)) ?_
      have hst := S.st
      cases st with
      | none =>
        cases am with
        | some p => exact hst.elim
        | none =>
          rw [exec_none hop] at k
          refine ⟨_, rfl, _, _, _, _, _, rfl, S.ob, (T.cls 164), (T.noat 166), rfl, rfl, _, rfl, itT rfl ?_⟩
          refine ⟨by show 1 ≤ sizeLine; rw [sizeLine_eq]; decide, fun r nr => ?_⟩
          have s1 := same_upd (o := .lst [V.int (-11)]) nr
          exact k r _ none (S.same s1) (FrS.of_same s1) (fun n' a m e h => by rw [e] at hop; cases hop) nr (fun z => by cases z) upd_same
      | some s =>
        cases am with
        | none => exact hst.elim
        | some p =>
          obtain ⟨a, m⟩ := p
          obtain ⟨S1, G, hss⟩ := hst
          rw [exec_some] at k
          refine ⟨_, rfl, _, _, _, _, _, rfl, S.ob, (T.cls 164), (T.noat 166), rfl, rfl, _, rfl, itF rfl ?_⟩
          have gd := DGet.k (k := kI j) ho
          rw [opL_get hx] at gd
          refine ⟨_, rfl, _, rfl, ops, _, rfl, gd, ?_⟩
          refine ⟨He.ga K x, spRun K giv ok opf, rfl, tabS_at T spL_nd spL_def hsp, _, rfl, _, _, _, _, _, rfl, S.ob, (T.cls 164), (T.noat 166), rfl, _, rfl, ?_⟩
          refine ⟨a, s, m, g, y, xs, rfl, S1, G, S.tabs, hg, hgv, hy, fun r H' m' S2 f2 t2 nr nra hr => ?_⟩
          have kp := run_kept G hok
          refine k r H' (some (a, m')) ⟨t2, f2.st _ _ S.ob hss (fun _ z => by cases z), S2, kp.good, fun z => ?_⟩ ⟨fun b o hb n na nt => f2.st b o hb na nt, f2.al, f2.nw⟩ (fun n' a m e h => by rw [e] at hop; cases hop) nr nra hr
          rcases f2.nw ss z with q | q
          · exact hss q
          · rw [S.ob] at q; cases q
end Pv
end
section
set_option Elab.async false
set_option linter.all false
set_option maxRecDepth 100000
set_option maxHeartbeats 4000000
namespace Pv
open PySem PySem.Spec PyProof.Rows L2 Kvg9
open L2 (Dp DpAll)
variable {P : Program} {w : World} {K : PySem.W.Frag} {mg : Str → Option Value}
theorem nat_of {a : Int} (h : Kvg9Neutral.isNatural a 32 = true) : ∃ n : Nat, a = (n : Int) ∧ n < 4294967296 := by
  unfold Kvg9Neutral.isNatural at h
  rw [Bool.and_eq_true, decide_eq_true_eq, decide_eq_true_eq] at h
  obtain ⟨n, rfl⟩ := Int.eq_ofNat_of_zero_le h.1
  exact ⟨n, rfl, by have := h.2; omega⟩
theorem RowsAt.nil {H : Hp} {bs : List Addr} (h : RowsAt H bs []) : bs = [] := by cases h; rfl
theorem RowsAt.two {H : Hp} {bs : List Addr} {r0 r1 : List Int} (h : RowsAt H bs [r0, r1]) : ∃ b0 b1, bs = [b0, b1] ∧ H b0 = some (.lst (r0.map V.int)) ∧ H b1 = some (.lst (r1.map V.int)) := by
  cases h with
  | cons h0 t =>
    cases t with
    | cons h1 t => cases t; exact ⟨_, _, rfl, h0, h1⟩
theorem ls0 {α : Type} {l : List α} (h : l.length = 0) : l = [] := List.length_eq_zero_iff.mp h
theorem ls1 {α : Type} {l : List α} (h : l.length = 1) : ∃ a, l = [a] := match l, h with | [a], _ => ⟨a, rfl⟩
theorem ls2 {α : Type} {l : List α} (h : l.length = 2) : ∃ a b, l = [a, b] := match l, h with | [a, b], _ => ⟨a, b, rfl⟩
theorem ls3 {α : Type} {l : List α} (h : l.length = 3) : ∃ a b c, l = [a, b, c] := match l, h with | [a, b, c], _ => ⟨a, b, c, rfl⟩
theorem ls4 {α : Type} {l : List α} (h : l.length = 4) : ∃ a b c d, l = [a, b, c, d] := match l, h with | [a, b, c, d], _ => ⟨a, b, c, d, rfl⟩
def Told (K : PySem.W.Frag) (j : Nat) (xs : List Int) (rs : List (List Int)) (bs : List Addr) (H : Hp) : Prop := ∃ op, Kvg9Neutral.operationOf (((j : Int) :: xs) :: rs) = some op ∧ Asks K j op (xs.map V.int ++ bs.map V.ref) H
theorem asks_0 {a : Int} {H : Hp} (ha : Kvg9Neutral.asked1 [[0, a]] = true) : Told K 0 [a] [] [] H := by
  obtain ⟨n, rfl, _⟩ := nat_of ha
  exact ⟨.create n, rfl, .inl ⟨rfl, n, rfl, rfl⟩⟩
theorem asks_1 {a : Int} {b c : List Int} {b0 b1 : Addr} {H : Hp} (ha : Kvg9Neutral.asked1 [[1, a], b, c] = true) (q0 : H b0 = some (.lst (b.map V.int))) (q1 : H b1 = some (.lst (c.map V.int))) : Told K 1 [a] [b, c] [b0, b1] H := by
  have ha : (Kvg9Neutral.isNatural a 32 && decide (b.length ≤ 30) && b.all Kvg9Neutral.isShort && decide (c.length ≤ 30) && c.all Kvg9Neutral.isShort) = true := ha
  simp only [Bool.and_eq_true, decide_eq_true_eq] at ha
  obtain ⟨n, rfl, _⟩ := nat_of ha.1.1.1.1
  exact ⟨.putFeature n b c, rfl, .inr ⟨by decide, rfl, True.intro, "put_feature", _, gPut, _, _, (n, b, c), List.mem_of_getElem? (i := 0) rfl, List.mem_of_getElem? (i := 0) rfl, ⟨b0, b1, rfl, q0, q1⟩, ⟨ha.1.1.1.2, ha.1.2⟩, rfl⟩⟩
theorem asks_2 {a : Int} {H : Hp} (ha : Kvg9Neutral.asked1 [[2, a]] = true) : Told K 2 [a] [] [] H := by
  obtain ⟨n0, rfl, l0⟩ := nat_of ha
  exact ⟨.removeFeature n0, rfl, .inr ⟨by decide, rfl, True.intro, "remove_feature", _, g1, _, _, n0, List.mem_of_getElem? (i := 1) rfl, List.mem_of_getElem? (i := 1) rfl, rfl, l0, rfl⟩⟩
theorem asks_3 {a b c : Int} {H : Hp} (ha : Kvg9Neutral.asked1 [[3, a, b, c]] = true) : Told K 3 [a, b, c] [] [] H := by
  have ha : (Kvg9Neutral.isNatural a 32 && Kvg9Neutral.isNatural b 32 && Kvg9Neutral.isSigned c) = true := ha
  simp only [Bool.and_eq_true] at ha
  obtain ⟨n0, rfl, l0⟩ := nat_of ha.1.1
  obtain ⟨n1, rfl, l1⟩ := nat_of ha.1.2
  exact ⟨.setAttribute n0 n1 c, rfl, .inr ⟨by decide, rfl, True.intro, "set_attribute", _, g3i, _, _, (n0, n1, c), List.mem_of_getElem? (i := 2) rfl, List.mem_of_getElem? (i := 2) rfl, rfl, True.intro, rfl⟩⟩
theorem asks_4 {a b c d : Int} {H : Hp} (ha : Kvg9Neutral.asked1 [[4, a, b, c, d]] = true) : Told K 4 [a, b, c, d] [] [] H := by
  have ha : (Kvg9Neutral.isNatural a 32 && Kvg9Neutral.isNatural b 32 && Kvg9Neutral.isSigned c && Kvg9Neutral.isSigned d) = true := ha
  simp only [Bool.and_eq_true] at ha
  obtain ⟨n0, rfl, l0⟩ := nat_of ha.1.1.1
  obtain ⟨n1, rfl, l1⟩ := nat_of ha.1.1.2
  exact ⟨.moveVertex n0 n1 c d, rfl, .inr ⟨by decide, rfl, True.intro, "move_vertex", _, g4i, _, _, (n0, n1, c, d), List.mem_of_getElem? (i := 3) rfl, List.mem_of_getElem? (i := 3) rfl, rfl, True.intro, rfl⟩⟩
theorem asks_5 {a b c d : Int} {H : Hp} (ha : Kvg9Neutral.asked1 [[5, a, b, c, d]] = true) : Told K 5 [a, b, c, d] [] [] H := by
  have ha : (Kvg9Neutral.isNatural a 32 && Kvg9Neutral.isNatural b 32 && Kvg9Neutral.isSigned c && Kvg9Neutral.isSigned d) = true := ha
  simp only [Bool.and_eq_true] at ha
  obtain ⟨n0, rfl, l0⟩ := nat_of ha.1.1.1
  obtain ⟨n1, rfl, l1⟩ := nat_of ha.1.1.2
  exact ⟨.insertVertex n0 n1 c d, rfl, .inr ⟨by decide, rfl, True.intro, "insert_vertex", _, g4i, _, _, (n0, n1, c, d), List.mem_of_getElem? (i := 4) rfl, List.mem_of_getElem? (i := 4) rfl, rfl, True.intro, rfl⟩⟩
theorem asks_6 {a b : Int} {H : Hp} (ha : Kvg9Neutral.asked1 [[6, a, b]] = true) : Told K 6 [a, b] [] [] H := by
  have ha : (Kvg9Neutral.isNatural a 32 && Kvg9Neutral.isNatural b 32) = true := ha
  simp only [Bool.and_eq_true] at ha
  obtain ⟨n0, rfl, l0⟩ := nat_of ha.1
  obtain ⟨n1, rfl, l1⟩ := nat_of ha.2
  exact ⟨.removeVertex n0 n1, rfl, .inr ⟨by decide, rfl, True.intro, "remove_vertex", _, g2, _, _, (n0, n1), List.mem_of_getElem? (i := 5) rfl, List.mem_of_getElem? (i := 5) rfl, rfl, True.intro, rfl⟩⟩
theorem asks_7 {a b : Int} {H : Hp} (ha : Kvg9Neutral.asked1 [[7, a, b]] = true) : Told K 7 [a, b] [] [] H := by
  have ha : (Kvg9Neutral.isNatural a 32 && Kvg9Neutral.isNatural b 32) = true := ha
  simp only [Bool.and_eq_true] at ha
  obtain ⟨n0, rfl, l0⟩ := nat_of ha.1
  obtain ⟨n1, rfl, l1⟩ := nat_of ha.2
  exact ⟨.getFeature n0 n1, rfl, .inr ⟨by decide, rfl, True.intro, "get_feature", _, g2, _, _, (n0, n1), List.mem_of_getElem? (i := 6) rfl, List.mem_of_getElem? (i := 6) rfl, rfl, True.intro, rfl⟩⟩
theorem asks_8 {a : Int} {H : Hp} (ha : Kvg9Neutral.asked1 [[8, a]] = true) : Told K 8 [a] [] [] H := by
  obtain ⟨n0, rfl, l0⟩ := nat_of ha
  exact ⟨.listFeatures n0, rfl, .inr ⟨by decide, rfl, True.intro, "list_features", _, g1, _, _, n0, List.mem_of_getElem? (i := 7) rfl, List.mem_of_getElem? (i := 7) rfl, rfl, True.intro, rfl⟩⟩
theorem asks_9 {H : Hp} (ha : Kvg9Neutral.asked1 [[9]] = true) : Told K 9 [] [] [] H := by
  exact ⟨.commit, rfl, .inr ⟨by decide, rfl, True.intro, "commit", _, g0, _, _, (), List.mem_of_getElem? (i := 8) rfl, List.mem_of_getElem? (i := 8) rfl, rfl, True.intro, rfl⟩⟩
theorem asks_10 {H : Hp} (ha : Kvg9Neutral.asked1 [[10]] = true) : Told K 10 [] [] [] H := by
  exact ⟨.discard, rfl, .inr ⟨by decide, rfl, True.intro, "discard", _, g0, _, _, (), List.mem_of_getElem? (i := 9) rfl, List.mem_of_getElem? (i := 9) rfl, rfl, True.intro, rfl⟩⟩
theorem asks_11 {a : Int} {H : Hp} (ha : Kvg9Neutral.asked1 [[11, a]] = true) : Told K 11 [a] [] [] H := by
  obtain ⟨n0, rfl, l0⟩ := nat_of ha
  exact ⟨.createBranch n0, rfl, .inr ⟨by decide, rfl, l0, "create_branch", _, g1, _, _, n0, List.mem_of_getElem? (i := 10) rfl, List.mem_of_getElem? (i := 10) rfl, rfl, True.intro, rfl⟩⟩
theorem asks_12 {a : Int} {H : Hp} (ha : Kvg9Neutral.asked1 [[12, a]] = true) : Told K 12 [a] [] [] H := by
  obtain ⟨n0, rfl, l0⟩ := nat_of ha
  exact ⟨.switchBranch n0, rfl, .inr ⟨by decide, rfl, True.intro, "switch_branch", _, g1, _, _, n0, List.mem_of_getElem? (i := 11) rfl, List.mem_of_getElem? (i := 11) rfl, rfl, True.intro, rfl⟩⟩
theorem asks_13 {a : Int} {H : Hp} (ha : Kvg9Neutral.asked1 [[13, a]] = true) : Told K 13 [a] [] [] H := by
  obtain ⟨n0, rfl, l0⟩ := nat_of ha
  exact ⟨.deleteBranch n0, rfl, .inr ⟨by decide, rfl, True.intro, "delete_branch", _, g1, _, _, n0, List.mem_of_getElem? (i := 12) rfl, List.mem_of_getElem? (i := 12) rfl, rfl, True.intro, rfl⟩⟩
theorem asks_14 {a : Int} {H : Hp} (ha : Kvg9Neutral.asked1 [[14, a]] = true) : Told K 14 [a] [] [] H := by
  obtain ⟨n0, rfl, l0⟩ := nat_of ha
  exact ⟨.resetBranch n0, rfl, .inr ⟨by decide, rfl, True.intro, "reset_branch", _, g1, _, _, n0, List.mem_of_getElem? (i := 13) rfl, List.mem_of_getElem? (i := 13) rfl, rfl, True.intro, rfl⟩⟩
theorem asks_15 {a b : Int} {H : Hp} (ha : Kvg9Neutral.asked1 [[15, a, b]] = true) : Told K 15 [a, b] [] [] H := by
  have ha : (Kvg9Neutral.isNatural a 32 && Kvg9Neutral.isNatural b 32) = true := ha
  simp only [Bool.and_eq_true] at ha
  obtain ⟨n0, rfl, l0⟩ := nat_of ha.1
  obtain ⟨n1, rfl, l1⟩ := nat_of ha.2
  exact ⟨.setTag n0 n1, rfl, .inr ⟨by decide, rfl, l0, "set_tag", _, g2, _, _, (n0, n1), List.mem_of_getElem? (i := 14) rfl, List.mem_of_getElem? (i := 14) rfl, rfl, True.intro, rfl⟩⟩
theorem asks_16 {a : Int} {H : Hp} (ha : Kvg9Neutral.asked1 [[16, a]] = true) : Told K 16 [a] [] [] H := by
  obtain ⟨n0, rfl, l0⟩ := nat_of ha
  exact ⟨.deleteTag n0, rfl, .inr ⟨by decide, rfl, True.intro, "delete_tag", _, g1, _, _, n0, List.mem_of_getElem? (i := 15) rfl, List.mem_of_getElem? (i := 15) rfl, rfl, True.intro, rfl⟩⟩
theorem asks_17 {a b : Int} {H : Hp} (ha : Kvg9Neutral.asked1 [[17, a, b]] = true) : Told K 17 [a, b] [] [] H := by
  have ha : (Kvg9Neutral.isNatural a 32 && Kvg9Neutral.isNatural b 32) = true := ha
  simp only [Bool.and_eq_true] at ha
  obtain ⟨n0, rfl, l0⟩ := nat_of ha.1
  obtain ⟨n1, rfl, l1⟩ := nat_of ha.2
  exact ⟨.diff n0 n1, rfl, .inr ⟨by decide, rfl, True.intro, "diff", _, g2, _, _, (n0, n1), List.mem_of_getElem? (i := 16) rfl, List.mem_of_getElem? (i := 16) rfl, rfl, True.intro, rfl⟩⟩
theorem asks_18 {H : Hp} (ha : Kvg9Neutral.asked1 [[18]] = true) : Told K 18 [] [] [] H := by
  exact ⟨.workingDiff, rfl, .inr ⟨by decide, rfl, True.intro, "working_diff", _, g0, _, _, (), List.mem_of_getElem? (i := 17) rfl, List.mem_of_getElem? (i := 17) rfl, rfl, True.intro, rfl⟩⟩
theorem asks_19 {a : Int} {H : Hp} (ha : Kvg9Neutral.asked1 [[19, a]] = true) : Told K 19 [a] [] [] H := by
  obtain ⟨n0, rfl, l0⟩ := nat_of ha
  exact ⟨.merge n0, rfl, .inr ⟨by decide, rfl, True.intro, "merge", _, g1, _, _, n0, List.mem_of_getElem? (i := 18) rfl, List.mem_of_getElem? (i := 18) rfl, rfl, True.intro, rfl⟩⟩
theorem asks_20 {a b : Int} {H : Hp} (ha : Kvg9Neutral.asked1 [[20, a, b]] = true) : Told K 20 [a, b] [] [] H := by
  have ha : (Kvg9Neutral.isNatural a 32 && Kvg9Neutral.isNatural b 32) = true := ha
  simp only [Bool.and_eq_true] at ha
  obtain ⟨n0, rfl, l0⟩ := nat_of ha.1
  obtain ⟨n1, rfl, l1⟩ := nat_of ha.2
  exact ⟨.mergeWith n0 n1, rfl, .inr ⟨by decide, rfl, True.intro, "merge_with", _, g2, _, _, (n0, n1), List.mem_of_getElem? (i := 19) rfl, List.mem_of_getElem? (i := 19) rfl, rfl, True.intro, rfl⟩⟩
theorem asks_21 {a : Int} {H : Hp} (ha : Kvg9Neutral.asked1 [[21, a]] = true) : Told K 21 [a] [] [] H := by
  obtain ⟨n0, rfl, l0⟩ := nat_of ha
  exact ⟨.revert n0, rfl, .inr ⟨by decide, rfl, True.intro, "revert", _, g1, _, _, n0, List.mem_of_getElem? (i := 20) rfl, List.mem_of_getElem? (i := 20) rfl, rfl, True.intro, rfl⟩⟩
theorem asks_22 {a : Int} {H : Hp} (ha : Kvg9Neutral.asked1 [[22, a]] = true) : Told K 22 [a] [] [] H := by
  obtain ⟨n0, rfl, l0⟩ := nat_of ha
  exact ⟨.cherryPick n0, rfl, .inr ⟨by decide, rfl, True.intro, "cherry_pick", _, g1, _, _, n0, List.mem_of_getElem? (i := 21) rfl, List.mem_of_getElem? (i := 21) rfl, rfl, True.intro, rfl⟩⟩
theorem asks_23 {a : Int} {H : Hp} (ha : Kvg9Neutral.asked1 [[23, a]] = true) : Told K 23 [a] [] [] H := by
  obtain ⟨n0, rfl, l0⟩ := nat_of ha
  exact ⟨.log n0, rfl, .inr ⟨by decide, rfl, True.intro, "log", _, g1, _, _, n0, List.mem_of_getElem? (i := 22) rfl, List.mem_of_getElem? (i := 22) rfl, rfl, True.intro, rfl⟩⟩
theorem asks_24 {a b : Int} {H : Hp} (ha : Kvg9Neutral.asked1 [[24, a, b]] = true) : Told K 24 [a, b] [] [] H := by
  have ha : (Kvg9Neutral.isNatural a 32 && Kvg9Neutral.isNatural b 32) = true := ha
  simp only [Bool.and_eq_true] at ha
  obtain ⟨n0, rfl, l0⟩ := nat_of ha.1
  obtain ⟨n1, rfl, l1⟩ := nat_of ha.2
  exact ⟨.commonAncestor n0 n1, rfl, .inr ⟨by decide, rfl, True.intro, "common_ancestor", _, g2, _, _, (n0, n1), List.mem_of_getElem? (i := 23) rfl, List.mem_of_getElem? (i := 23) rfl, rfl, True.intro, rfl⟩⟩
theorem asks_25 {a b : Int} {H : Hp} (ha : Kvg9Neutral.asked1 [[25, a, b]] = true) : Told K 25 [a, b] [] [] H := by
  have ha : (Kvg9Neutral.isNatural a 32 && Kvg9Neutral.isNatural b 32) = true := ha
  simp only [Bool.and_eq_true] at ha
  obtain ⟨n0, rfl, l0⟩ := nat_of ha.1
  obtain ⟨n1, rfl, l1⟩ := nat_of ha.2
  exact ⟨.originOfAttribute n0 n1, rfl, .inr ⟨by decide, rfl, True.intro, "origin_of_attribute", _, g2, _, _, (n0, n1), List.mem_of_getElem? (i := 24) rfl, List.mem_of_getElem? (i := 24) rfl, rfl, True.intro, rfl⟩⟩
theorem asks_26 {a : Int} {H : Hp} (ha : Kvg9Neutral.asked1 [[26, a]] = true) : Told K 26 [a] [] [] H := by
  obtain ⟨n0, rfl, l0⟩ := nat_of ha
  exact ⟨.originOfVertices n0, rfl, .inr ⟨by decide, rfl, True.intro, "origin_of_vertices", _, g1, _, _, n0, List.mem_of_getElem? (i := 25) rfl, List.mem_of_getElem? (i := 25) rfl, rfl, True.intro, rfl⟩⟩
theorem asks_27 {a : Int} {H : Hp} (ha : Kvg9Neutral.asked1 [[27, a]] = true) : Told K 27 [a] [] [] H := by
  obtain ⟨n0, rfl, l0⟩ := nat_of ha
  exact ⟨.hash n0, rfl, .inr ⟨by decide, rfl, True.intro, "hash_of_commit", _, g1, _, _, n0, List.mem_of_getElem? (i := 26) rfl, List.mem_of_getElem? (i := 26) rfl, rfl, True.intro, rfl⟩⟩
theorem asks_28 {H : Hp} (ha : Kvg9Neutral.asked1 [[28]] = true) : Told K 28 [] [] [] H := by
  exact ⟨.collectGarbage, rfl, .inr ⟨by decide, rfl, True.intro, "collect_garbage", _, g0, _, _, (), List.mem_of_getElem? (i := 27) rfl, List.mem_of_getElem? (i := 27) rfl, rfl, True.intro, rfl⟩⟩
theorem asks_29 {a b c : Int} {H : Hp} (ha : Kvg9Neutral.asked1 [[29, a, b, c]] = true) : Told K 29 [a, b, c] [] [] H := by
  have ha : (Kvg9Neutral.isNatural a 32 && Kvg9Neutral.isNatural b 32 && Kvg9Neutral.isNatural c 32) = true := ha
  simp only [Bool.and_eq_true] at ha
  obtain ⟨n0, rfl, l0⟩ := nat_of ha.1.1
  obtain ⟨n1, rfl, l1⟩ := nat_of ha.1.2
  obtain ⟨n2, rfl, l2⟩ := nat_of ha.2
  exact ⟨.matchFeatures n0 n1 n2, rfl, .inr ⟨by decide, rfl, True.intro, "match_features", _, g3, _, _, (n0, n1, n2), List.mem_of_getElem? (i := 28) rfl, List.mem_of_getElem? (i := 28) rfl, rfl, l2, rfl⟩⟩
theorem asks_30 {H : Hp} (ha : Kvg9Neutral.asked1 [[30]] = true) : Told K 30 [] [] [] H := by
  exact ⟨.getState, rfl, .inr ⟨by decide, rfl, True.intro, "get_state", _, g0, _, _, (), List.mem_of_getElem? (i := 29) rfl, List.mem_of_getElem? (i := 29) rfl, rfl, True.intro, rfl⟩⟩
/-- a call as it is handed on -/
theorem asks_of {j : Nat} {xs : List Int} {rs : List (List Int)} {bs : List Addr} {H : Hp} (hj : j < 31) (hx : xs.length = cntN j) (hr : rs.length = if j = 1 then 2 else 0) (ha : Kvg9Neutral.asked1 (((j : Int) :: xs) :: rs) = true) (hb : RowsAt H bs rs) : Told K j xs rs bs H := by
  have : j = 0 ∨ j = 1 ∨ j = 2 ∨ j = 3 ∨ j = 4 ∨ j = 5 ∨ j = 6 ∨ j = 7 ∨ j = 8 ∨ j = 9 ∨ j = 10 ∨ j = 11 ∨ j = 12 ∨ j = 13 ∨ j = 14 ∨ j = 15 ∨ j = 16 ∨ j = 17 ∨ j = 18 ∨ j = 19 ∨ j = 20 ∨ j = 21 ∨ j = 22 ∨ j = 23 ∨ j = 24 ∨ j = 25 ∨ j = 26 ∨ j = 27 ∨ j = 28 ∨ j = 29 ∨ j = 30 := by omega
  rcases this with rfl | rfl | rfl | rfl | rfl | rfl | rfl | rfl | rfl | rfl | rfl | rfl | rfl | rfl | rfl | rfl | rfl | rfl | rfl | rfl | rfl | rfl | rfl | rfl | rfl | rfl | rfl | rfl | rfl | rfl | rfl
  · obtain ⟨a, rfl⟩ := ls1 hx
    obtain rfl := ls0 hr
    obtain rfl := hb.nil
    exact asks_0 ha
  · obtain ⟨a, rfl⟩ := ls1 hx
    obtain ⟨b, c, rfl⟩ := ls2 hr
    obtain ⟨b0, b1, rfl, q0, q1⟩ := hb.two
    exact asks_1 ha q0 q1
  · obtain ⟨a, rfl⟩ := ls1 hx
    obtain rfl := ls0 hr
    obtain rfl := hb.nil
    exact asks_2 ha
  · obtain ⟨a, b, c, rfl⟩ := ls3 hx
    obtain rfl := ls0 hr
    obtain rfl := hb.nil
    exact asks_3 ha
  · obtain ⟨a, b, c, d, rfl⟩ := ls4 hx
    obtain rfl := ls0 hr
    obtain rfl := hb.nil
    exact asks_4 ha
  · obtain ⟨a, b, c, d, rfl⟩ := ls4 hx
    obtain rfl := ls0 hr
    obtain rfl := hb.nil
    exact asks_5 ha
  · obtain ⟨a, b, rfl⟩ := ls2 hx
    obtain rfl := ls0 hr
    obtain rfl := hb.nil
    exact asks_6 ha
  · obtain ⟨a, b, rfl⟩ := ls2 hx
    obtain rfl := ls0 hr
    obtain rfl := hb.nil
    exact asks_7 ha
  · obtain ⟨a, rfl⟩ := ls1 hx
    obtain rfl := ls0 hr
    obtain rfl := hb.nil
    exact asks_8 ha
  · obtain rfl := ls0 hx
    obtain rfl := ls0 hr
    obtain rfl := hb.nil
    exact asks_9 ha
  · obtain rfl := ls0 hx
    obtain rfl := ls0 hr
    obtain rfl := hb.nil
    exact asks_10 ha
  · obtain ⟨a, rfl⟩ := ls1 hx
    obtain rfl := ls0 hr
    obtain rfl := hb.nil
    exact asks_11 ha
  · obtain ⟨a, rfl⟩ := ls1 hx
    obtain rfl := ls0 hr
    obtain rfl := hb.nil
    exact asks_12 ha
  · obtain ⟨a, rfl⟩ := ls1 hx
    obtain rfl := ls0 hr
    obtain rfl := hb.nil
    exact asks_13 ha
  · obtain ⟨a, rfl⟩ := ls1 hx
    obtain rfl := ls0 hr
    obtain rfl := hb.nil
    exact asks_14 ha
  · obtain ⟨a, b, rfl⟩ := ls2 hx
    obtain rfl := ls0 hr
    obtain rfl := hb.nil
    exact asks_15 ha
  · obtain ⟨a, rfl⟩ := ls1 hx
    obtain rfl := ls0 hr
    obtain rfl := hb.nil
    exact asks_16 ha
  · obtain ⟨a, b, rfl⟩ := ls2 hx
    obtain rfl := ls0 hr
    obtain rfl := hb.nil
    exact asks_17 ha
  · obtain rfl := ls0 hx
    obtain rfl := ls0 hr
    obtain rfl := hb.nil
    exact asks_18 ha
  · obtain ⟨a, rfl⟩ := ls1 hx
    obtain rfl := ls0 hr
    obtain rfl := hb.nil
    exact asks_19 ha
  · obtain ⟨a, b, rfl⟩ := ls2 hx
    obtain rfl := ls0 hr
    obtain rfl := hb.nil
    exact asks_20 ha
  · obtain ⟨a, rfl⟩ := ls1 hx
    obtain rfl := ls0 hr
    obtain rfl := hb.nil
    exact asks_21 ha
  · obtain ⟨a, rfl⟩ := ls1 hx
    obtain rfl := ls0 hr
    obtain rfl := hb.nil
    exact asks_22 ha
  · obtain ⟨a, rfl⟩ := ls1 hx
    obtain rfl := ls0 hr
    obtain rfl := hb.nil
    exact asks_23 ha
  · obtain ⟨a, b, rfl⟩ := ls2 hx
    obtain rfl := ls0 hr
    obtain rfl := hb.nil
    exact asks_24 ha
  · obtain ⟨a, b, rfl⟩ := ls2 hx
    obtain rfl := ls0 hr
    obtain rfl := hb.nil
    exact asks_25 ha
  · obtain ⟨a, rfl⟩ := ls1 hx
    obtain rfl := ls0 hr
    obtain rfl := hb.nil
    exact asks_26 ha
  · obtain ⟨a, rfl⟩ := ls1 hx
    obtain rfl := ls0 hr
    obtain rfl := hb.nil
    exact asks_27 ha
  · obtain rfl := ls0 hx
    obtain rfl := ls0 hr
    obtain rfl := hb.nil
    exact asks_28 ha
  · obtain ⟨a, b, c, rfl⟩ := ls3 hx
    obtain rfl := ls0 hr
    obtain rfl := hb.nil
    exact asks_29 ha
  · obtain rfl := ls0 hx
    obtain rfl := ls0 hr
    obtain rfl := hb.nil
    exact asks_30 ha
theorem whole_of {j : Nat} {xs : List Int} {rs : List (List Int)} (hj : j < 31) (hx : xs.length = cntN j) (hr : rs.length = if j = 1 then 2 else 0) : PyKvg9.whole (((j : Int) :: xs) :: rs) = ((j : Int) :: xs) :: rs := by
  have : j = 0 ∨ j = 1 ∨ j = 2 ∨ j = 3 ∨ j = 4 ∨ j = 5 ∨ j = 6 ∨ j = 7 ∨ j = 8 ∨ j = 9 ∨ j = 10 ∨ j = 11 ∨ j = 12 ∨ j = 13 ∨ j = 14 ∨ j = 15 ∨ j = 16 ∨ j = 17 ∨ j = 18 ∨ j = 19 ∨ j = 20 ∨ j = 21 ∨ j = 22 ∨ j = 23 ∨ j = 24 ∨ j = 25 ∨ j = 26 ∨ j = 27 ∨ j = 28 ∨ j = 29 ∨ j = 30 := by omega
  rcases this with rfl | rfl | rfl | rfl | rfl | rfl | rfl | rfl | rfl | rfl | rfl | rfl | rfl | rfl | rfl | rfl | rfl | rfl | rfl | rfl | rfl | rfl | rfl | rfl | rfl | rfl | rfl | rfl | rfl | rfl | rfl
  · obtain ⟨a, rfl⟩ := ls1 hx
    obtain rfl := ls0 hr
    rfl
  · obtain ⟨a, rfl⟩ := ls1 hx
    obtain ⟨r0, r1, rfl⟩ := ls2 hr
    rfl
  · obtain ⟨a, rfl⟩ := ls1 hx
    obtain rfl := ls0 hr
    rfl
  · obtain ⟨a, b, c, rfl⟩ := ls3 hx
    obtain rfl := ls0 hr
    rfl
  · obtain ⟨a, b, c, d, rfl⟩ := ls4 hx
    obtain rfl := ls0 hr
    rfl
  · obtain ⟨a, b, c, d, rfl⟩ := ls4 hx
    obtain rfl := ls0 hr
    rfl
  · obtain ⟨a, b, rfl⟩ := ls2 hx
    obtain rfl := ls0 hr
    rfl
  · obtain ⟨a, b, rfl⟩ := ls2 hx
    obtain rfl := ls0 hr
    rfl
  · obtain ⟨a, rfl⟩ := ls1 hx
    obtain rfl := ls0 hr
    rfl
  · obtain rfl := ls0 hx
    obtain rfl := ls0 hr
    rfl
  · obtain rfl := ls0 hx
    obtain rfl := ls0 hr
    rfl
  · obtain ⟨a, rfl⟩ := ls1 hx
    obtain rfl := ls0 hr
    rfl
  · obtain ⟨a, rfl⟩ := ls1 hx
    obtain rfl := ls0 hr
    rfl
  · obtain ⟨a, rfl⟩ := ls1 hx
    obtain rfl := ls0 hr
    rfl
  · obtain ⟨a, rfl⟩ := ls1 hx
    obtain rfl := ls0 hr
    rfl
  · obtain ⟨a, b, rfl⟩ := ls2 hx
    obtain rfl := ls0 hr
    rfl
  · obtain ⟨a, rfl⟩ := ls1 hx
    obtain rfl := ls0 hr
    rfl
  · obtain ⟨a, b, rfl⟩ := ls2 hx
    obtain rfl := ls0 hr
    rfl
  · obtain rfl := ls0 hx
    obtain rfl := ls0 hr
    rfl
  · obtain ⟨a, rfl⟩ := ls1 hx
    obtain rfl := ls0 hr
    rfl
  · obtain ⟨a, b, rfl⟩ := ls2 hx
    obtain rfl := ls0 hr
    rfl
  · obtain ⟨a, rfl⟩ := ls1 hx
    obtain rfl := ls0 hr
    rfl
  · obtain ⟨a, rfl⟩ := ls1 hx
    obtain rfl := ls0 hr
    rfl
  · obtain ⟨a, rfl⟩ := ls1 hx
    obtain rfl := ls0 hr
    rfl
  · obtain ⟨a, b, rfl⟩ := ls2 hx
    obtain rfl := ls0 hr
    rfl
  · obtain ⟨a, b, rfl⟩ := ls2 hx
    obtain rfl := ls0 hr
    rfl
  · obtain ⟨a, rfl⟩ := ls1 hx
    obtain rfl := ls0 hr
    rfl
  · obtain ⟨a, rfl⟩ := ls1 hx
    obtain rfl := ls0 hr
    rfl
  · obtain rfl := ls0 hx
    obtain rfl := ls0 hr
    rfl
  · obtain ⟨a, b, c, rfl⟩ := ls3 hx
    obtain rfl := ls0 hr
    rfl
  · obtain rfl := ls0 hx
    obtain rfl := ls0 hr
    rfl
end Pv
end
section
set_option Elab.async false
set_option linter.all false
set_option maxRecDepth 100000
set_option maxHeartbeats 4000000
namespace Pv
open PySem PySem.Spec PyProof.Rows L2 Kvg9
open L2 (Dp DpAll)
variable {P : Program} {w : World} {K : PySem.W.Frag} {mg : Str → Option Value}
/-- the list of calls as it is handed in -/
def CalAt (K : PySem.W.Frag) (H : Hp) (a : Addr) (xs : List V) : Prop := (∃ o, H a = some (.frz o (.lst xs))) ∨
  ∃ (o : Obj) (its : Array Value) (n : Nat), K.lookup a = some o ∧ o.cls = .type "list" ∧ o.dict = none ∧ o.data = .seq its n ∧ its.size ≤ sizeLine ∧ Vals xs its.toList
theorem CalAt.sq {H : Hp} {a : Addr} {xs : List V} (c : CalAt K H a xs) : SqL K H a xs := c.elim (fun ⟨o, h⟩ => .inl (.inr ⟨o, h⟩)) .inr
theorem CalAt.of {H : Hp} {a : Addr} {xs : List V} (z : At0 K H) (s : SqL K H a xs) : CalAt K H a xs := by
  rcases s with (h | ⟨o, h⟩) | h
  · rcases z.2 a with q | ⟨o, u, q⟩ | ⟨p, hp, q⟩
    · rw [q] at h; cases h
    · rw [q] at h; cases h
    · rw [q, z.1 p hp] at h; cases h
  · exact .inl ⟨o, h⟩
  · exact .inr h
/-- what holds nothing of the store's own is no thing of the store -/
theorem SesAt.notAv {H : Hp} {ss dx b : Addr} {st : State} {am : Option (Addr × Mu)} {u : HO} (S : SesAt K H ss dx st am) (h : H b = some u) (h1 : ∀ C d fs, u ≠ .ins C d fs) (h2 : ∀ kvs, u ≠ .dK kvs) : b ∉ oav am := by
  have := S.st
  revert this
  cases st <;> cases am <;> intro q
  · exact fun z => by cases z
  · exact q.elim
  · exact q.elim
  · rename_i s p
    obtain ⟨⟨dx', fs, g1, _⟩, ⟨kc, g2, _⟩, ⟨kb, g3, _⟩, ⟨kt, g4, _⟩, ⟨kw, g5, _⟩, _⟩ := q.1
    intro z
    have : b = p.1 ∨ b = p.2.dc ∨ b = p.2.db ∨ b = p.2.dt ∨ b = p.2.dw := by simpa [oav, Mu.av] using z
    rcases this with e | e | e | e | e
    · rw [e, g1] at h; exact h1 _ _ _ (Option.some.inj h).symm
    · rw [e, g2] at h; exact h2 _ (Option.some.inj h).symm
    · rw [e, g3] at h; exact h2 _ (Option.some.inj h).symm
    · rw [e, g4] at h; exact h2 _ (Option.some.inj h).symm
    · rw [e, g5] at h; exact h2 _ (Option.some.inj h).symm
theorem CalAt.keep {H H' : Hp} {a ss dx : Addr} {xs : List V} {st : State} {am am' : Option (Addr × Mu)} (c : CalAt K H a xs) (S : SesAt K H ss dx st am) (f : FrS H ss am H' am') : CalAt K H' a xs := by
  rcases c with ⟨o, h⟩ | h
  · refine .inl ⟨o, f.st _ _ h (fun z => ?_) (S.notAv h (fun _ _ _ z => by cases z) (fun _ z => by cases z)) (fun _ z => by cases z)⟩
    have := S.ob
    rw [← z, h] at this
    cases this
  · exact .inr h
theorem CalAt.upd {H : Hp} {a W : Addr} {xs ys : List V} {o : HO} (c : CalAt K H a xs) (h : H W = some (.lst ys)) : CalAt K (upd H W o) a xs := by
  rcases c with ⟨o', h'⟩ | h'
  · refine .inl ⟨o', ?_⟩
    rw [upd_ne (fun z => by rw [z, h] at h'; cases h')]
    exact h'
  · exact .inr h'
theorem CalAt.same {H H' : Hp} {a : Addr} {xs : List V} (e : Same H H') (c : CalAt K H a xs) : CalAt K H' a xs := c.elim (fun ⟨o, h⟩ => .inl ⟨o, e _ _ h⟩) .inr
/-- a list that is no commit's list of parents stands apart -/
theorem StoreG.apart {H : Hp} {a W : Addr} {s : Store} {m : Mu} {xs : List V} (S : StoreAt K H a s m) (h : H W = some (.lst xs)) (n : ∀ n cm, s.commit n = some cm → cm.parents.map vN ≠ xs) : StoreG K H a s m (W :: m.av a) := by
  obtain ⟨O, ⟨kc, h2, C⟩, B, T, D, A⟩ := S
  refine ⟨O, ⟨kc, h2, C.keys, fun k cm hc => ?_⟩, B, T, D, A⟩
  obtain ⟨c, e1, e2⟩ := C.at_ k cm hc
  obtain ⟨dx, fs, p, d, q1, q2, q3, q4, q5, ⟨kv, q6, q7⟩, q8, q9, q10⟩ := e2.ex
  refine ⟨c, e1, ⟨dx, fs, p, d, q1, q2, q3, q4, q5, ⟨kv, q6, q7⟩, fun z => ?_, fun z => ?_, fun z => ?_⟩⟩
  · rcases List.mem_cons.mp z with z | z
    · rw [z, h] at q1; cases q1
    · exact q8 z
  · rcases List.mem_cons.mp z with z | z
    · rw [z, h] at q5
      injection q5 with q5
      injection q5 with q5
      exact n k cm hc q5.symm
    · exact q9 z
  · rcases List.mem_cons.mp z with z | z
    · rw [z, h] at q6; cases q6
    · exact q10 z
/-- the list that is written is written on -/
theorem SesAt.write {H : Hp} {ss dx W : Addr} {st : State} {am : Option (Addr × Mu)} {xs ys : List V} (S : SesAt K H ss dx st am) (h : H W = some (.lst xs)) (n : ∀ s a m, st = some s → am = some (a, m) → StoreG K H a s m (W :: m.av a)) : SesAt K (upd H W (.lst ys)) ss dx st am := by
  have hav := S.notAv h (fun _ _ _ z => by cases z) (fun _ z => by cases z)
  refine ⟨fun p hp => ?_, ?_, ?_⟩
  · obtain ⟨ps, q1, q2, q3⟩ := S.tabs p hp
    refine ⟨ps, ?_, q2, fun pos cv hc => ?_⟩
    · rw [upd_ne (fun z => by rw [z, h] at q1; cases q1)]; exact q1
    · obtain ⟨c, e1, e2⟩ := q3 pos cv hc
      refine ⟨c, e1, ?_⟩
      rw [upd_ne (fun z => by rw [z, h] at e2; unfold LamX.CodeO at e2; cases e2)]; exact e2
  · rw [upd_ne (fun z => by have := S.ob; rw [z, h] at this; cases this)]; exact S.ob
  · have := S.st
    revert this hav n
    cases st <;> cases am <;> intro n hav q
    · exact q
    · exact q
    · exact q
    · rename_i s p
      have g := n s p.1 p.2 rfl rfl
      exact ⟨(g.updW (o := .lst ys) (by simp) hav h rfl).off fun b hb => .inl (List.mem_cons_of_mem _ hb), q.2⟩
/-- as much as is known of what was written -/
def Wrote (acc : List Int) : State → Prop
  | none => True
  | some s => 3 ≤ acc.length ∨ (acc = [1, 0] ∧ s.commits.length ≤ 1)
theorem wrote_apart {s s' : Store} {acc : List Int} (G : Good s') (h : Wrote acc (some s)) (l : s'.commits.length ≤ s.commits.length + 1) : ∀ n cm, s'.commit n = some cm → cm.parents.map vN ≠ acc.map V.int := by
  intro n cm hc z
  have hl := congrArg List.length z
  rw [List.length_map, List.length_map] at hl
  have g := G.com n cm hc
  rcases h with h | ⟨rfl, h⟩
  · have := g.two
    omega
  · have hn := commit_lt hc
    cases hp : cm.parents with
    | nil => rw [hp] at hl; cases hl
    | cons p l =>
      rw [hp] at z
      have e : V.int (p : Nat) = V.int 1 := by injection z
      injection e with e
      have := (g.low p (by rw [hp]; simp)).1
      omega
end Pv
end
section
set_option Elab.async false
set_option linter.all false
set_option maxRecDepth 100000
set_option maxHeartbeats 4000000
namespace Pv
open PySem PySem.Spec PyProof.Rows L2 Kvg9
open L2 (Dp DpAll)
variable {P : Program} {w : World} {K : PySem.W.Frag} {mg : Str → Option Value}
theorem rows_len : ∀ {k : Nat} {r : List Int} {rs : List (List Int)} {t : List Int}, PyFlat.rows k r = some (rs, t) → rs.length = k
  | 0, r, rs, t, h => by
    have h := Option.some.inj h
    injection h with h1 h2
    rw [← h1]; rfl
  | k + 1, r, rs, t, h => by
    unfold PyFlat.rows at h
    cases e : PyFlat.row r with
    | none => rw [e] at h; cases h
    | some xs =>
      obtain ⟨x, s⟩ := xs
      rw [e] at h
      dsimp only at h
      cases e2 : PyFlat.rows k s with
      | none => rw [e2] at h; cases h
      | some yt =>
        obtain ⟨ys, t2⟩ := yt
        rw [e2] at h
        have h := Option.some.inj h
        injection h with h1 h2
        rw [← h1, List.length_cons, rows_len e2]
theorem call_form {p : Int} {r t : List Int} {cl : List (List Int)} (h : PyFlat.call PyKvg9.shape (p :: r) = some (cl, t)) : ∃ (j : Nat) (xs : List Int) (rs : List (List Int)), p = (j : Int) ∧ j < 31 ∧ cl = ((j : Int) :: xs) :: rs ∧ xs.length = cntN j ∧ rs.length = if j = 1 then 2 else 0 := by
  unfold PyFlat.call at h
  dsimp only at h
  cases hsh : PyKvg9.shape p with
  | none => rw [hsh] at h; cases h
  | some nk =>
    obtain ⟨n, kk⟩ := nk
    rw [hsh] at h
    dsimp only at h
    obtain ⟨j, rfl, hj, rfl, rfl⟩ := shape_is hsh
    by_cases hlen : r.length < cntN j
    · rw [if_pos hlen] at h; cases h
    · rw [if_neg hlen] at h
      generalize hkk : (if j = 1 then 2 else 0 : Nat) = kk at h
      cases hr : PyFlat.rows kk (r.drop (cntN j)) with
      | none => rw [hr] at h; cases h
      | some rt =>
        obtain ⟨rs, t'⟩ := rt
        rw [hr] at h
        have h := Option.some.inj h
        injection h with e1 e2
        exact ⟨j, r.take (cntN j), rs, rfl, hj, e1.symm, by rw [List.length_take]; omega, by rw [hkk]; exact rows_len hr⟩
theorem calls_step {f : Nat} {p : Int} {r : List Int} {cs : List (List (List Int))} (h : PyFlat.calls PyKvg9.shape f (p :: r) = some cs) : ∃ f' cl t cs', PyFlat.call PyKvg9.shape (p :: r) = some (cl, t) ∧ PyFlat.calls PyKvg9.shape f' t = some cs' ∧ cs = cl :: cs' := by
  cases f with
  | zero => cases h
  | succ f =>
    unfold PyFlat.calls at h
    cases e : PyFlat.call PyKvg9.shape (p :: r) with
    | none => rw [e] at h; cases h
    | some ct =>
      obtain ⟨cl, t⟩ := ct
      rw [e] at h
      dsimp only at h
      cases e2 : PyFlat.calls PyKvg9.shape f t with
      | none => rw [e2] at h; cases h
      | some cs' =>
        rw [e2] at h
        exact ⟨f, cl, t, cs', rfl, e2, (Option.some.inj h).symm⟩
theorem calls_nil {f : Nat} {cs : List (List (List Int))} (h : PyFlat.calls PyKvg9.shape f [] = some cs) : cs = [] := by
  cases f <;> exact (Option.some.inj h).symm
theorem step_eq {st : State} {c : List (List Int)} {op : Operation} (h : Kvg9Neutral.operationOf c = some op) : Kvg9Neutral.step st c = ((execute st op).1, Kvg9Neutral.resultRow (execute st op).2) := by
  unfold Kvg9Neutral.step
  rw [h]
theorem told_cons (a : List Int) (l : List (List Int)) : PyFlat.told (a :: l) = (a.length : Int) :: a ++ PyFlat.told l := by
  unfold PyFlat.told
  rw [List.flatMap_cons]
theorem played_cons {st : State} {c : List (List Int)} {op : Operation} {l : List (List (List Int))} (h : Kvg9Neutral.operationOf c = some op) : PyFlat.played Kvg9Neutral.step st (c :: l) = Kvg9Neutral.resultRow (execute st op).2 :: PyFlat.played Kvg9Neutral.step (execute st op).1 l := by
  show (Kvg9Neutral.step st c).2 :: PyFlat.played Kvg9Neutral.step (Kvg9Neutral.step st c).1 l = _
  rw [step_eq h]
theorem wrote_next {acc : List Int} {st : State} {op : Operation} (h : Wrote acc st) (he : acc = [] → st = none) : Wrote (acc ++ (((Kvg9Neutral.resultRow (execute st op).2).length : Nat) : Int) :: Kvg9Neutral.resultRow (execute st op).2) (execute st op).1 := by
  cases hs : (execute st op).1 with
  | none => exact True.intro
  | some s' =>
    cases acc with
    | nil =>
      obtain rfl := he rfl
      cases op with
      | create n =>
        rw [exec_create] at hs ⊢
        by_cases h8 : 8 < n
        · rw [if_pos h8] at hs; cases hs
        · rw [if_neg h8] at hs ⊢
          have : startS n = s' := Option.some.inj hs
          rw [← this]
          exact .inr ⟨rfl, by show 1 ≤ 1; decide⟩
      | _ => cases hs
    | cons a l =>
      refine .inl ?_
      unfold Kvg9Neutral.resultRow
      rw [List.length_append, List.length_cons, List.length_cons, List.length_cons]
      omega
theorem upd_upd {H : Hp} {a : Addr} {o u : HO} : upd (upd H a o) a u = upd H a u := by
  funext b
  by_cases h : b = a
  · rw [h, upd_same, upd_same]
  · rw [upd_ne h, upd_ne h, upd_ne h]
theorem next_apart {H5 H6 : Hp} {ss dx W : Addr} {j : Nat} {op : Operation} {xs : List V} {st : State} {am am' : Option (Addr × Mu)} {acc : List Int} (S5 : SesAt K H5 ss dx st am) (S6 : SesAt K H6 ss dx (execute st op).1 am') (hA : Asks K j op xs H5) (hw : Wrote acc st) (hW5 : H5 W = some (.lst (acc.map V.int))) (hW6 : H6 W = some (.lst (acc.map V.int)))
    (sep : ∀ n a m, op = .create n → n ≤ 8 → am' = some (a, m) → ∀ Ws : List Addr, (∀ W ∈ Ws, H5 W ≠ none) → StoreG K H6 a (startS n) m (Ws ++ m.av a)) : ∀ s a m, (execute st op).1 = some s → am' = some (a, m) → StoreG K H6 a s m (W :: m.av a) := by
  intro s a m hs ha
  subst ha
  have S6' := S6
  rw [hs] at S6'
  have h6 := S6'.st
  have h6 : StoreAt K H6 a s m ∧ Good s ∧ ss ∉ m.av a := h6
  have done : ∀ s0, st = some s0 → s.commits.length ≤ s0.commits.length + 1 → StoreG K H6 a s m (W :: m.av a) := fun s0 e l => by
    rw [e] at hw
    exact h6.1.apart hW6 (wrote_apart h6.2.1 hw l)
  rcases hA with ⟨_, n, rfl, _⟩ | ⟨_, hc, hok, _⟩
  · rw [exec_create] at hs
    by_cases h8 : 8 < n
    · rw [if_pos h8] at hs
      exact done s hs (Nat.le_succ _)
    · rw [if_neg h8] at hs
      have e : startS n = s := Option.some.inj hs
      rw [← e]
      exact sep n a m rfl (by omega) rfl [W] (fun b hb => by rw [List.mem_singleton.mp hb, hW5]; exact fun z => by cases z)
  · cases st with
    | none => rw [exec_none hc] at hs; cases hs
    | some s0 =>
      rw [exec_some] at hs
      have e : (s0.run op).1 = s := Option.some.inj hs
      have h5 := S5.st
      cases am with
      | none => exact h5.elim
      | some p => exact done s0 rfl (by rw [← e]; exact (run_kept h5.2.1 hok).len)
theorem sc_answers : FnScope ["calls", "session", "operations", "written", "position", "number", "given", "answer"] ["calls"] (defScope s_answers) := ⟨rfl, rfl, rfl, by decide +kernel, rfl, by decide +kernel, by decide +kernel⟩
theorem ok_answers (T : Tx K mg) : Ok P w K mg ("answers", none) ["calls"] 10 (spAns K) := by
  refine T.ok (i := 76) (d := d_answers) rfl rfl sc_answers (fun vs H Q E h => ?_) (fun _ _ _ _ _ _ us hl => match us, hl with | [_], _ => rfl) (fun base tb cdv A outer s H vs Q E hr h => ?_)
  · obtain ⟨a, ns, rfl, _⟩ := h
    rfl
  · obtain ⟨a, ns, rfl, hsq, hz, h0, hask, k⟩ := h
    have hcal := CalAt.of h0 hsq
    have hu := hu_of hr
    refine ⟨_, (pss_cons (ps_set (i := 1) sc_answers.nd rfl (by first | exact Or.inl rfl | exact Or.inr rfl) (pe_makeO0 (ok_Session_init T) tb (T.mkr 165) (T.glo 82) hr rfl))
        (pss_cons (ps_set (i := 2) sc_answers.nd rfl (by first | exact Or.inl rfl | exact Or.inr rfl) (pe_callO0 (ok_operations_by_number T) tb (T.glo 79) hr rfl))
        (pss_cons (ps_set (i := 3) sc_answers.nd rfl (by first | exact Or.inl rfl | exact Or.inr rfl) (pe_lst pa_nil))
        (pss_cons (ps_set (i := 4) sc_answers.nd rfl (by first | exact Or.inl rfl | exact Or.inr rfl) pe_int)
        (pss_cons (ps_while PassesOwn.never (pt_cmpR op_lt (pv 4) (pe_callB (kLen (K := K) rfl) (by rfl) (T.free 87) PySem.boot_len (pa_cons (pv 0) pa_nil)) (nomark _))
          (pss_cons (ps_asg (pe_callO (ok_read_call T) tb (T.glo 0) hr rfl (pa_cons (pv 0) (pa_cons (pv 4) pa_nil))) (pg_tup rfl (pgs_cons (pg_name (i := 5) sc_answers.nd rfl (by first | exact Or.inl rfl | exact Or.inr rfl)) (pgs_cons (pg_name (i := 6) sc_answers.nd rfl (by first | exact Or.inl rfl | exact Or.inr rfl)) (pgs_cons (pg_name (i := 4) sc_answers.nd rfl (by first | exact Or.inl rfl | exact Or.inr rfl)) pgs_nil)))))
        (pss_cons (ps_set (i := 7) sc_answers.nd rfl (by first | exact Or.inl rfl | exact Or.inr rfl) (pe_callO (ok_answer_call T) tb (T.glo 77) hr rfl (pa_cons (pv 1) (pa_cons (pv 2) (pa_cons (pv 5) (pa_cons (pv 6) pa_nil))))))
        (pss_cons (ps_expr (pe_bm PySem.F.plainAttrs_list PySem.F.slot_list_append PySem.F.type_list_append mt_append (pv 3) (pa_cons (pe_callB (kLen (K := K) rfl) (by rfl) (T.free 87) PySem.boot_len (pa_cons (pv 7) pa_nil)) pa_nil)))
        (pss_one (ps_expr (pe_bm PySem.F.plainAttrs_list PySem.F.slot_list_extend PySem.F.type_list_extend (kExt (K := K) rfl) (pv 3) (pa_cons (pv 7) pa_nil))))))))
        (pss_one (ps_ret (pv 3)))))))), ?_⟩
    unfold PyKvg9.answers_asked at hask
    cases hraw : PyFlat.calls PyKvg9.shape ns.length ns with
    | none => rw [hraw] at hask; cases hask
    | some raw =>
      rw [hraw] at hask
      simp only [Bool.and_eq_true] at hask
      obtain ⟨⟨_, hasked⟩, hshort⟩ := hask
      have hsh : (PyKvg9.answers ns).length ≤ 10000000 := of_decide_eq_true hshort
      have hall : ∀ c ∈ raw.map PyKvg9.whole, Kvg9Neutral.asked1 c = true := by
        unfold Kvg9Neutral.asked at hasked
        rw [Bool.and_eq_true] at hasked
        exact List.all_eq_true.mp hasked.2
      have htot : PyKvg9.answers ns = PyFlat.told (PyFlat.played Kvg9Neutral.step Kvg9Neutral.start (raw.map PyKvg9.whole)) := by
        unfold PyKvg9.answers PyKvg9.calls
        rw [hraw]
      have tt0 : Tabs K H := fun p hp => LamX.TabS.nil (h0.1 p hp)
      refine fun ss dx nss ndx nsd => ⟨ss, dx, rfl, upd_same, fun H1 fs on h1 efs => ⟨rfl, ?_⟩⟩
      have s1 : Same H H1 := fun b o hb => by
        rw [on.ne b (ne_of_none hb nss), upd_ne (ne_of_none hb nss), upd_ne (ne_of_none hb ndx)]; exact hb
      rw [efs] at h1
      refine ⟨rfl, fun ops H2 s2 nops hops => ?_⟩
      refine ⟨by show 0 ≤ sizeLine; decide, fun W nW => ?_⟩
      have s3 := same_upd (o := .lst []) nW
      have s13 := s1.trans (s2.trans s3)
      refine ⟨fun m σ H4 => ∃ (pos f : Nat) (st : State) (am : Option (Addr × Mu)) (acc : List Int) (rem : List (List (List Int))) (x5 x6 x7 : Option V),
        σ = [some (.ref a), some (.ref ss), some (.ref ops), some (.ref W), some (vN pos), x5, x6, x7] ∧ pos ≤ ns.length ∧ m = ns.length - pos ∧ PyFlat.calls PyKvg9.shape f (ns.drop pos) = some rem ∧
        acc ++ PyFlat.told (PyFlat.played Kvg9Neutral.step st (rem.map PyKvg9.whole)) = PyKvg9.answers ns ∧ (∀ c ∈ rem.map PyKvg9.whole, Kvg9Neutral.asked1 c = true) ∧ CalAt K H4 a (ns.map V.int) ∧ H4 ops = some (.dK (opT K)) ∧ ops ∉ oav am ∧ H4 W = some (.lst (acc.map V.int)) ∧ SesAt K H4 ss dx st am ∧ Wrote acc st ∧ (acc = [] → st = none), ?_, ?_⟩
      · refine ⟨ns.length, 0, ns.length, none, none, [], raw, _, _, _, rfl, Nat.zero_le _, rfl, hraw, by rw [htot]; rfl, hall, hcal.same s13, s3 _ _ hops, (fun z => by cases z), upd_same, ⟨tt0.same s13, (s2.trans s3) _ _ h1, True.intro⟩, True.intro, fun _ => rfl⟩
      · rintro m σ H4 ⟨pos, f, st, am, acc, rem, x5, x6, x7, rfl, hp, rfl, hcs, htl, hal, hc, ho, hoa, hW, S, hw, he⟩
        refine ⟨_, rfl, _, rfl, a, _, rfl, .inl hc.sq, _, _, rfl, rfl, _, rfl, ?_⟩
        rw [List.length_map]
        cases hd : ns.drop pos with
        | nil =>
          have hlen := congrArg List.length hd
          rw [List.length_drop] at hlen
          have hlen : ns.length - pos = 0 := hlen
          refine itF (decide_eq_false (by omega)) ?_
          rw [hd] at hcs
          obtain rfl := calls_nil hcs
          have htl : acc ++ [] = PyKvg9.answers ns := htl
          rw [List.append_nil] at htl
          exact ⟨_, rfl, k _ _ (by rw [← htl]; exact hW)⟩
        | cons p r =>
          obtain ⟨lt, _, _, _⟩ := drop_cons hd
          refine itT (decide_eq_true (by omega)) ?_
          rw [hd] at hcs
          obtain ⟨f', cl, t, rem', hcl, hcs', rfl⟩ := calls_step hcs
          obtain ⟨j, xs, rs, rfl, hj, rfl, hx, hr⟩ := call_form hcl
          refine ⟨_, fun _ _ h => h, _, rfl, _, rfl, a, ns, pos, _, r, _, t, rfl, hc.sq, hz, hd, hcl, fun q g H5 bs e xs' rs' ecl het he1 he2 s5 ng hq hg hbs => ?_⟩
          injection ecl with ec1 ec2
          injection ec1 with ec3 ec4
          subst ec4 ec2
          refine ⟨q, _, rfl, SqT.of hq, rfl, _, _, rfl, _, _, rfl, _, _, rfl, rfl, ?_⟩
          rw [List.map_cons, whole_of hj hx hr] at htl hal
          obtain ⟨op, hop, hA⟩ := asks_of (K := K) hj hx hr (hal _ (by simp)) hbs
          rw [played_cons hop, told_cons] at htl
          have S5 := S.same s5
          have hc5 := hc.same s5
          have ho5 := s5 _ _ ho
          have hW5 := s5 _ _ hW
          refine ⟨_, rfl, _, rfl, _, rfl, _, rfl, ss, ops, g, dx, j, op, _, st, am, rfl, ho5, hg, S5, hA, fun rr H6 am' S6 f6 sep nr nra hrr => ?_⟩
          have Wss : W ≠ ss := fun z => by have := S5.ob; rw [← z, hW5] at this; cases this
          have oss : ops ≠ ss := fun z => by have := S5.ob; rw [← z, ho5] at this; cases this
          have hW6 : H6 W = some (.lst (acc.map V.int)) := f6.st _ _ hW5 Wss (S5.notAv hW5 (fun _ _ _ z => by cases z) (fun _ z => by cases z)) (fun _ z => by cases z)
          have ho6 : H6 ops = some (.dK (opT K)) := f6.st _ _ ho5 oss hoa (fun _ z => by cases z)
          have hc6 := hc5.keep S5 f6
          have oW : ops ≠ W := fun z => by rw [z, hW6] at ho6; cases ho6
          have rW : rr ≠ W := fun z => by rw [z, hW5] at nr; cases nr
          have ap := next_apart S5 S6 hA hw hW5 hW6 sep
          have oa6 : ops ∉ oav am' := fun z => (f6.nw ops z).elim hoa fun q => by rw [ho5] at q; cases q
          have wn := wrote_next (op := op) hw he
          generalize hrow : Kvg9Neutral.resultRow (execute st op).2 = row at hrr htl wn
          have lt7 : acc.length + 1 + row.length ≤ 10000000 := by
            have := congrArg List.length htl
            rw [List.length_append, List.length_append, List.length_cons] at this
            omega
          refine ⟨_, rfl, .inl ⟨rfl, _, SqL.of hW6⟩, _, rfl, rr, _, rfl, .inl (SqL.of hrr), W, _, _, rfl, rfl, hW6, by rw [List.length_map, sizeLine_eq]; omega, ?_⟩
          have hrr7 : (upd H6 W (.lst (acc.map V.int ++ [V.int ((row.map V.int).length : Nat)]))) rr = some (.lst (row.map V.int)) := by rw [upd_ne rW]; exact hrr
          refine ⟨_, rfl, .inl ⟨rfl, _, SqL.of upd_same⟩, _, rfl, W, rr, _, _, rfl, rfl, upd_same, .inl hrr7, by rw [List.length_append, List.length_map, List.length_map, sizeLine_eq, List.length_singleton]; omega, ?_⟩
          rw [upd_upd]
          refine ⟨ns.length - e, by omega, e, f', (execute st op).1, am', acc ++ ((row.length : Nat) : Int) :: row, rem', _, _, _, rfl, he2, rfl, by rw [het]; exact hcs', ?_, fun c hc => hal c (List.mem_cons_of_mem _ hc), hc6.upd hW6, ?_, oa6, ?_, S6.write hW6 ap, wn, fun z => by simp at z⟩
          · rw [List.append_assoc]
            exact htl
          · rw [upd_ne oW]; exact ho6
          · rw [upd_same, List.length_map, List.map_append, List.map_cons, List.append_assoc]
            rfl
end Pv
end
section
open PySem PySem.W PyProof.Rows
set_option maxRecDepth 100000 in
theorem PySem.Challenge.cw_plotversions_s01_answers_holds : PySem.Challenge.rw_plotversions_s01_answers.Holds := by
  exact Pv.holds_of (n := 10) ⟨rfl, by decide +kernel, by decide +kernel⟩ (fun P w K mg T => Pv.ok_answers T)
end
#print axioms PySem.Challenge.cw_plotversions_s01_answers_holds
