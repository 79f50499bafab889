import PyProof.Rows.All
import Wide.All
import OpenK.AllK
import Wide.FinOn
import PyProof.EqAt
import PyProof.EqKinds
import PyProof.TupleCall
import HandS.Base
import HandS.Call
import HandS.List
import HandS.Comp
import HandS.Ends
import HandS.Words
import HandS.WordsList
import HandS.Exc
import HandS.ExcInit
import HandS.ExcIs
import HandS.OwnEq
import HandS.IsInst
import HandS.ExcOwn
import HandS.ExcField
import HandS.WordsExc
import HandS.TryOnly
import HandS.TryMany
import HandS.CallSlots
import HandS.Wide
import HandS.Codes
import KE.KTupSum
import PyProof.ListRange
import KE.GoesEnum
import HandS.Iter
import HandS.Walk
import HandS.HotCalls
import KE.KEqNest
import HandS.MakeKwOnly
import HandS.TupAny
import HandS.Strs
import HandS.Deep
import HandS.Zip
import HandS.Star
import HandS.Conv
import HandS.IterVal
import HandS.ListItems
import KE.KDictZip
import HandS.Defaults
import HandS.Evl
import HandS.Remove
import HandS.SetFor
import HandS.NoneIn
import HandS.Style
import KE.DataFind
import HandS.GenCall
import HandS.GenList
import KE.DataMinMax
import HandS.SortKw
import KE.KExcInit
import KE.GoesZip
import KE.GoesMore
import PySem.Challenge.RW_wholeline_k52_letters_as_units
import HandS.TupMul
set_option Elab.async false
namespace K02
set_option linter.unusedSectionVars false
/-! a book: its slots, and the order of its places; plain mathematics -/
variable {α : Type} [DecidableEq α]
def at1 {β : Type} [DecidableEq β] : List β → β → Nat
  | [], _ => 0
  | y :: ys, x => if y = x then 0 else at1 ys x + 1
theorem at1_mem {β : Type} [DecidableEq β] : ∀ {l : List β} {x : β}, x ∈ l → l[at1 l x]? = some x ∧ ∀ m y, m < at1 l x → l[m]? = some y → y ≠ x
  | [], _, h => nomatch h
  | y :: ys, x, h => by
    unfold at1
    by_cases e : y = x
    · rw [if_pos e, e]
      exact ⟨rfl, fun m _ hm => absurd hm (Nat.not_lt_zero _)⟩
    · rw [if_neg e]
      have hx : x ∈ ys := (List.mem_cons.mp h).resolve_left fun z => e z.symm
      obtain ⟨h1, h2⟩ := at1_mem hx
      refine ⟨h1, fun m z hm hz => ?_⟩
      cases m with
      | zero => cases hz; exact e
      | succ m => exact h2 m z (Nat.lt_of_succ_lt_succ hm) hz
theorem at1_eq {β : Type} [DecidableEq β] {l : List β} {x : β} {j : Nat} (h1 : l[j]? = some x) (h2 : ∀ m y, m < j → l[m]? = some y → y ≠ x) : at1 l x = j := by
  obtain ⟨a1, a2⟩ := at1_mem (List.mem_of_getElem? h1)
  rcases Nat.lt_trichotomy (at1 l x) j with h | h | h
  · exact absurd rfl (h2 _ _ h a1)
  · exact h
  · exact absurd rfl (a2 _ _ h h1)
theorem tk {β : Type} {l : List β} {i : Nat} (h : i < l.length) : l.take (i + 1) = l.take i ++ [l[i]] := by
  rw [List.take_succ, List.getElem?_eq_getElem h]
  rfl
abbrev St (α : Type) := List (Option α) × List Nat
def nextP (s : St α) : Option Nat := if s.2.length < s.1.length then some (at1 s.1 none) else s.2.head?
def place (s : St α) (h : α) : Option Nat := if some h ∈ s.1 then some (at1 s.1 (some h)) else nextP s
def put (s : St α) (h : α) (p : Nat) : St α := (s.1.set p (some h), s.2.filter (fun o => decide (o ≠ p)) ++ [p])
def step (s : St α) (h : α) : St α := match place s h with
  | none => s
  | some p => put s h p
def emp (n : Nat) : St α := (List.replicate n none, [])
def run (n : Nat) (us : List α) : St α := us.foldl step (emp n)
/-- the names that are held, the slots and the order by them -/
structure Ok (n : Nat) (s : St α) (ns : List α) : Prop where
  nd : ns.Nodup
  le : ns.length ≤ n
  sl : s.1 = ns.map some ++ List.replicate (n - ns.length) none
  od : s.2.Perm (List.range ns.length)
section
variable {n : Nat} {s : St α} {ns : List α}
theorem Ok.len (o : Ok n s ns) : s.1.length = n := by
  rw [o.sl, List.length_append, List.length_map, List.length_replicate]
  have := o.le
  omega
theorem Ok.olen (o : Ok n s ns) : s.2.length = ns.length := by rw [o.od.length_eq, List.length_range]
theorem Ok.ond (o : Ok n s ns) : s.2.Nodup := o.od.nodup_iff.mpr List.nodup_range
theorem Ok.omem (o : Ok n s ns) {i : Nat} : i ∈ s.2 ↔ i < ns.length := by rw [o.od.mem_iff, List.mem_range]
theorem Ok.get (o : Ok n s ns) {i : Nat} (h : i < ns.length) : s.1[i]? = some (some ns[i]) := by
  rw [o.sl, List.getElem?_append_left (by rw [List.length_map]; exact h), List.getElem?_map, List.getElem?_eq_getElem h]
  rfl
theorem Ok.blank (o : Ok n s ns) {i : Nat} (h : ns.length ≤ i) (hn : i < n) : s.1[i]? = some none := by
  rw [o.sl, List.getElem?_append_right (by rw [List.length_map]; exact h), List.length_map, List.getElem?_replicate, if_pos (by omega)]
theorem Ok.mem (o : Ok n s ns) {x : α} : some x ∈ s.1 ↔ x ∈ ns := by
  rw [o.sl, List.mem_append]
  simp
theorem Ok.atn (o : Ok n s ns) (h : ns.length < n) : at1 s.1 none = ns.length := by
  refine at1_eq (o.blank (Nat.le_refl _) h) fun m y hm hy => ?_
  rw [o.get hm] at hy
  cases hy
  exact fun z => nomatch z
theorem Ok.ats (o : Ok n s ns) {i : Nat} (h : i < ns.length) : at1 s.1 (some ns[i]) = i := by
  refine at1_eq (o.get h) fun m y hm hy => ?_
  rw [o.get (by omega)] at hy
  cases hy
  intro z
  injection z with z
  have := (List.getElem_inj o.nd).mp z
  omega
theorem Ok.nonemem (o : Ok n s ns) : Option.none ∈ s.1 ↔ ns.length < n := by
  rw [o.sl, List.mem_append]
  constructor
  · rintro (h | h)
    · obtain ⟨_, _, h⟩ := List.mem_map.mp h
      cases h
    · have := (List.mem_replicate.mp h).1
      omega
  · intro h
    exact .inr (List.mem_replicate.mpr ⟨by omega, rfl⟩)
theorem ok_emp : Ok n (emp n : St α) [] := ⟨List.nodup_nil, Nat.zero_le _, by unfold emp; simp, by unfold emp; simp⟩
theorem filter_ne {l : List Nat} (hd : l.Nodup) (p : Nat) : l.filter (fun o => decide (o ≠ p)) = l.erase p := by
  rw [List.Nodup.erase_eq_filter hd]
  refine List.filter_congr fun x _ => ?_
  by_cases h : x = p
  · simp [h]
  · simp [h]
theorem perm_put {l : List Nat} {k p : Nat} (h : l.Perm (List.range k)) (hp : p < k) : (l.filter (fun o => decide (o ≠ p)) ++ [p]).Perm (List.range k) := by
  have hd : l.Nodup := h.nodup_iff.mpr List.nodup_range
  rw [filter_ne hd]
  have hm : p ∈ l := h.mem_iff.mpr (List.mem_range.mpr hp)
  exact (List.perm_append_comm.trans (List.perm_cons_erase hm).symm).trans h
/-- one use more -/
theorem ok_step (o : Ok n s ns) (h : α) : ∃ ns', Ok n (step s h) ns' ∧ (∀ x, x ∈ ns' → x ∈ ns ∨ x = h) := by
  unfold step place
  by_cases hm : some h ∈ s.1
  · rw [if_pos hm]
    have hn := o.mem.mp hm
    obtain ⟨i, hi, he⟩ := List.getElem_of_mem hn
    have ha : at1 s.1 (some h) = i := by rw [← he]; exact o.ats hi
    dsimp only
    rw [ha]
    unfold put
    refine ⟨ns, ⟨o.nd, o.le, ?_, perm_put o.od hi⟩, fun x hx => .inl hx⟩
    have : s.1.set i (some h) = s.1 := by
      refine List.ext_getElem? fun j => ?_
      by_cases hj : j = i
      · subst hj
        rw [List.getElem?_set_self (by rw [o.len]; have := o.le; omega), o.get hi, he]
      · rw [List.getElem?_set_ne (fun z => hj z.symm)]
    show s.1.set i (some h) = _
    rw [this]
    exact o.sl
  · rw [if_neg hm]
    unfold nextP
    rw [o.olen, o.len]
    by_cases hl : ns.length < n
    · rw [if_pos hl, o.atn hl]
      refine ⟨ns ++ [h], ⟨?_, ?_, ?_, ?_⟩, fun x hx => ?_⟩
      · rw [List.nodup_append]
        refine ⟨o.nd, by simp, fun a ha b hb => ?_⟩
        rw [List.mem_singleton.mp hb]
        rintro rfl
        exact hm (o.mem.mpr ha)
      · rw [List.length_append]
        exact hl
      · show s.1.set ns.length (some h) = _
        rw [o.sl, List.set_append_right _ _ (by rw [List.length_map]; exact Nat.le_refl _), List.length_map, Nat.sub_self, List.length_append, List.map_append]
        have : n - ns.length = (n - (ns.length + 1)) + 1 := by omega
        rw [this, List.replicate_succ]
        simp
      · show (s.2.filter (fun o => decide (o ≠ ns.length)) ++ [ns.length]).Perm _
        have : s.2.filter (fun o => decide (o ≠ ns.length)) = s.2 := by
          rw [List.filter_eq_self]
          intro x hx
          have := o.omem.mp hx
          simp
          omega
        rw [this, List.length_append, List.length_singleton, List.range_succ]
        exact o.od.append_right _
      · rcases List.mem_append.mp hx with h' | h'
        · exact .inl h'
        · exact .inr (List.mem_singleton.mp h')
    · rw [if_neg hl]
      have hk : ns.length = n := by have := o.le; omega
      cases hO : s.2 with
      | nil => exact ⟨ns, o, fun x hx => .inl hx⟩
      | cons p O' =>
        have hp : p < ns.length := o.omem.mp (by rw [hO]; exact List.mem_cons_self)
        refine ⟨ns.set p h, ⟨?_, ?_, ?_, ?_⟩, fun x hx => ?_⟩
        · rw [List.nodup_iff_pairwise_ne, List.pairwise_iff_getElem]
          intro i j hi hj hij
          rw [List.length_set] at hi hj
          have nd := List.pairwise_iff_getElem.mp (List.nodup_iff_pairwise_ne.mp o.nd) i j hi hj hij
          have hn : h ∉ ns := fun z => hm (o.mem.mpr z)
          rw [List.getElem_set, List.getElem_set]
          by_cases h1 : p = i
          · rw [if_pos h1, if_neg (by omega)]
            intro z
            exact hn (z ▸ List.getElem_mem hj)
          · rw [if_neg h1]
            by_cases h2 : p = j
            · rw [if_pos h2]
              intro z
              exact hn (z ▸ List.getElem_mem hi)
            · rw [if_neg h2]
              exact nd
        · rw [List.length_set]
          exact o.le
        · show s.1.set p (some h) = _
          rw [o.sl, List.set_append_left _ _ (by rw [List.length_map]; exact hp), List.length_set, List.map_set]
        · rw [List.length_set]
          exact perm_put (by exact hO ▸ o.od) hp
        · rcases List.mem_or_eq_of_mem_set hx with h' | h'
          · exact .inl h'
          · exact .inr h'
end
/-- the law's own use -/
def lstep (s : St α) (h : α) : St α :=
  if some h ∈ s.1 then (s.1.set (at1 s.1 (some h)) (some h), s.2.erase (at1 s.1 (some h)) ++ [at1 s.1 (some h)])
  else if none ∈ s.1 then (s.1.set (at1 s.1 none) (some h), s.2 ++ [at1 s.1 none])
  else match s.2 with
    | p :: O => (s.1.set p (some h), O ++ [p])
    | [] => s
theorem lstep_step {n : Nat} {s : St α} {ns : List α} (o : Ok n s ns) (h : α) : lstep s h = step s h := by
  unfold lstep step place nextP put
  by_cases hm : some h ∈ s.1
  · rw [if_pos hm, if_pos hm]
    dsimp only
    rw [filter_ne o.ond]
  · rw [if_neg hm, if_neg hm, o.olen, o.len]
    by_cases hl : ns.length < n
    · rw [if_pos (o.nonemem.mpr hl), if_pos hl]
      dsimp only
      rw [o.atn hl]
      have : s.2.filter (fun x => decide (x ≠ ns.length)) = s.2 := by
        rw [List.filter_eq_self]
        intro x hx
        have := o.omem.mp hx
        simp
        omega
      rw [this]
    · rw [if_neg (fun z => hl (o.nonemem.mp z)), if_neg hl]
      cases hO : s.2 with
      | nil => rfl
      | cons p O =>
        dsimp only [List.head?]
        have hd := o.ond
        rw [hO] at hd
        rw [filter_ne hd, List.erase_cons_head]
def lnext (s : St α) : Option Nat := if none ∈ s.1 then some (at1 s.1 none) else s.2.head?
theorem lnext_next {n : Nat} {s : St α} {ns : List α} (o : Ok n s ns) : lnext s = nextP s := by
  unfold lnext nextP
  rw [o.olen, o.len]
  by_cases hl : ns.length < n
  · rw [if_pos (o.nonemem.mpr hl), if_pos hl]
  · rw [if_neg (fun z => hl (o.nonemem.mp z)), if_neg hl]
/-! a book is made again of what it holds and of its order -/
theorem run_names {n : Nat} {ns : List α} (nd : ns.Nodup) (le : ns.length ≤ n) : ∀ j, j ≤ ns.length → run n (ns.take j) = ((ns.take j).map some ++ List.replicate (n - j) none, List.range j)
  | 0, _ => by unfold run emp; simp
  | j + 1, hj => by
    have hjl : j < ns.length := hj
    have ih := run_names nd le j (Nat.le_of_lt hjl)
    have ok : Ok n (run n (ns.take j)) (ns.take j) := by
      rw [ih]
      refine ⟨nd.sublist (List.take_sublist _ _), by rw [List.length_take]; omega, ?_, ?_⟩
      · rw [List.length_take, Nat.min_eq_left (Nat.le_of_lt hjl)]
      · rw [List.length_take, Nat.min_eq_left (Nat.le_of_lt hjl)]
    have hlen : (ns.take j).length = j := by rw [List.length_take, Nat.min_eq_left (Nat.le_of_lt hjl)]
    have e : run n (ns.take (j + 1)) = step (run n (ns.take j)) ns[j] := by
      unfold run
      rw [tk hjl, List.foldl_append]
      rfl
    have hnot : ns[j] ∉ ns.take j := fun h => by
      obtain ⟨i, hi, he⟩ := List.getElem_of_mem h
      rw [List.getElem_take] at he
      have := (List.getElem_inj nd).mp he
      rw [hlen] at hi
      omega
    rw [e]
    unfold step place nextP
    rw [if_neg (fun z => hnot (ok.mem.mp z)), ok.olen, ok.len, hlen, if_pos (by omega), ok.atn (by omega), hlen, ih]
    unfold put
    dsimp only
    have h1 : ((ns.take j).map some ++ List.replicate (n - j) none).set j (some ns[j]) = (ns.take (j + 1)).map some ++ List.replicate (n - (j + 1)) none := by
      rw [List.set_append_right _ _ (by rw [List.length_map, hlen]; exact Nat.le_refl _), List.length_map, hlen, Nat.sub_self, tk hjl, List.map_append]
      have : n - j = (n - (j + 1)) + 1 := by omega
      rw [this, List.replicate_succ]
      simp
    have h2 : (List.range j).filter (fun o => decide (o ≠ j)) = List.range j := by
      rw [List.filter_eq_self]
      intro x hx
      have := List.mem_range.mp hx
      simp
      omega
    rw [h1, h2, List.range_succ]
theorem run_order {S : List (Option α)} {n : Nat} {ns : List α} (nd : ns.Nodup) (le : ns.length ≤ n) (hS : S = ns.map some ++ List.replicate (n - ns.length) none) {O : List Nat} (hO : O.Perm (List.range ns.length)) {us : List α} (hl : us.length = O.length) (hu : ∀ j i : Nat, O[j]? = some i → us[j]? = ns[i]?) :
    ∀ j, j ≤ O.length → (us.take j).foldl step (S, List.range ns.length) = (S, (List.range ns.length).filter (fun x => decide (x ∉ O.take j)) ++ O.take j)
  | 0, _ => by
    have : (List.range ns.length).filter (fun x => decide (x ∉ O.take 0)) = List.range ns.length := List.filter_eq_self.mpr fun x _ => by simp
    rw [this]
    simp
  | j + 1, hj => by
    have hjl : j < O.length := hj
    have hju : j < us.length := by omega
    have ih := run_order nd le hS hO hl hu j (Nat.le_of_lt hjl)
    have hd : O.Nodup := hO.nodup_iff.mpr List.nodup_range
    have hi : O[j] < ns.length := List.mem_range.mp (hO.mem_iff.mp (List.getElem_mem hjl))
    have hus : us[j] = ns[O[j]] := by
      have := hu j O[j] (List.getElem?_eq_getElem hjl)
      rw [List.getElem?_eq_getElem hju, List.getElem?_eq_getElem hi] at this
      exact Option.some.inj this
    rw [tk hju, List.foldl_append, ih]
    show step (S, _) us[j] = _
    have ok : Ok n (S, List.range ns.length) ns := ⟨nd, le, hS, List.Perm.refl _⟩
    have hm : some us[j] ∈ S := by rw [hus]; exact ok.mem.mpr (List.getElem_mem hi)
    have ha : at1 S (some us[j]) = O[j] := by rw [hus]; exact ok.ats hi
    have hset : S.set O[j] (some us[j]) = S := by
      refine List.ext_getElem? fun m => ?_
      by_cases hj : m = O[j]
      · rw [hj, List.getElem?_set_self (by have := ok.len; show O[j] < S.length; have h2 : S.length = n := this; omega), hus]
        exact (ok.get hi).symm
      · rw [List.getElem?_set_ne (fun z => hj z.symm)]
    unfold step place
    rw [if_pos hm]
    dsimp only
    rw [ha]
    unfold put
    dsimp only
    rw [hset, List.filter_append, List.filter_filter]
    have hnot : O[j] ∉ O.take j := fun h => by
      obtain ⟨i, hi', he⟩ := List.getElem_of_mem h
      rw [List.getElem_take] at he
      have := (List.getElem_inj hd).mp he
      rw [List.length_take] at hi'
      omega
    have h2 : (O.take j).filter (fun o => decide (o ≠ O[j])) = O.take j := by
      rw [List.filter_eq_self]
      intro x hx
      simp
      rintro rfl
      exact hnot hx
    rw [h2, tk hjl, List.append_assoc]
    have h3 : (List.range ns.length).filter (fun x => decide (x ≠ O[j]) && decide (x ∉ O.take j)) = (List.range ns.length).filter (fun x => decide (x ∉ O.take j ++ [O[j]])) := by
      refine List.filter_congr fun x _ => ?_
      have hx : (x ∉ O.take j ++ [O[j]]) ↔ (x ≠ O[j] ∧ x ∉ O.take j) := by
        rw [List.mem_append, List.mem_singleton, not_or]
        exact and_comm
      rw [decide_eq_decide.mpr hx, Bool.decide_and]
    rw [h3]
theorem rebuilt {n : Nat} {s : St α} {ns : List α} (o : Ok n s ns) {us : List α} (hl : us.length = s.2.length) (hu : ∀ j i : Nat, s.2[j]? = some i → us[j]? = ns[i]?) (h : α) : run n (ns ++ us ++ [h]) = step s h := by
  have e1 := run_names o.nd o.le ns.length (Nat.le_refl _)
  rw [List.take_length] at e1
  have e2 := run_order o.nd o.le o.sl o.od hl hu s.2.length (Nat.le_refl _)
  rw [List.take_of_length_le (by omega : us.length ≤ s.2.length), List.take_length] at e2
  have e3 : (List.range ns.length).filter (fun x => decide (x ∉ s.2)) = [] := by
    rw [List.filter_eq_nil_iff]
    intro x hx
    have := o.omem.mpr (List.mem_range.mp hx)
    simp [this]
  rw [e3, List.nil_append] at e2
  have e4 : run n (ns ++ us ++ [h]) = step ((us.foldl step (run n ns))) h := by
    unfold run
    rw [List.foldl_append, List.foldl_append]
    rfl
  rw [e4, e1, ← o.sl, e2]
/-- what is held, in its slots -/
theorem held_names {n : Nat} {s : St α} {ns : List α} (o : Ok n s ns) : s.1.filterMap id = ns := by
  rw [o.sl, List.filterMap_append]
  have h1 : (ns.map some).filterMap id = ns := by
    rw [List.filterMap_map]
    exact List.filterMap_some
  have h2 : (List.replicate (n - ns.length) (none : Option α)).filterMap id = [] := by
    rw [List.filterMap_eq_nil_iff]
    intro a ha
    rw [(List.mem_replicate.mp ha).2]
    rfl
  rw [h1, h2, List.append_nil]
end K02

set_option Elab.async false
set_option maxRecDepth 100000
set_option maxHeartbeats 4000000
namespace PySem.W
open PySem PySem.Calls PyProof.Rows
section
variable {prog : Program} {w : World} {A : Around} {E : Value → Shared → Prop} {s : Shared} {K : Frag} {x C L f : Addr} {h₀ : Heap} {m : Str → Option Value} {ox : Obj} {od : Option Obj} {b tb : Value}
theorem objNe_K {Q : Fin → Shared → Prop} (hu : A.units < cLine) (X : K.In s.heap) (I : InstAt s.heap x ox C od)
    (hs : findIn K (.ref C) "__eq__" = some (some (.ref f))) (hf : isFn K (.ref f) = true)
    (h : wpAny (model prog w) A (call (.ref f) [.ref x, b]) (fun v s' => ∃ r, v = .bool r ∧ Q (.done (.ret (.bool (!r)))) s') E s) :
    wpAny (model prog w) A (Builtin.«object.__ne__» ⟨[.ref x, b], []⟩) Q E s := by
  obtain ⟨hp, g, d, tk, os⟩ := s
  unfold Builtin.«object.__ne__»
  repeat (first
    | with_reducible refine wpAny_cRoomFor hu ?_
    | (refine wpAny_bind (m := callSpecialIfBound? (.ref x) (Str.ofString "__eq__") [b])
        (ifBound_K X I hs hf (wpAny_mono h (fun r s' hr => by
          obtain ⟨b, rfl, hq⟩ := hr
          repeat (first | exact hq | exact wpAny_pure hq | exact wpAny_truthy_bool hq | (refine wpAny_bind (m := truthy (.bool _)) (wpAny_truthy_bool ?_)) | wp_step)) fun _ _ e => e)))
    | wp_step)
theorem cmpNe_K {Q : Value → Shared → Prop} (hu : A.units + 1 < cLine) (F : Fr h₀ L s.heap m) (X₀ : K.In h₀) (I : InstAt s.heap x ox C od) (hb : Looks (model prog w) s.heap (typeOf b) tb) (hn : notFirst K C tb = true)
    (hne : findIn K (.ref C) "__ne__" = some (some (.builtin "object.__ne__"))) (hm : mroIn K C (.type "object") = some true)
    (hs : findIn K (.ref C) "__eq__" = some (some (.ref f))) (hf : isFn K (.ref f) = true)
    (h : wpAny (model prog w) A.in1 (call (.ref f) [.ref x, b]) (fun v s' => ∃ r, v = .bool r ∧ Q (.bool (!r)) s') E s) : wpAny (model prog w) A (richCompare .NotEq (.ref x) b) Q E s := by
  have X := X₀.keeps F.keep
  have sub : Looks (model prog w) s.heap (isInstance (.ref x) (.type "object")) true := I.type.andThen (looks_mroIn X hm)
  have one : wpAny (model prog w) A (tryCompare (.ref x) "__ne__" b) (fun r s' => ∃ v, r = some v ∧ Q v s') E s := by
    unfold tryCompare
    refine wpAny_bind ?_
    simp only [callSpecialIfBound?, bindSpecialIfBound?]
    refine wpAny_holding (wpAny_bind (wpAny_bind (wpAny_bind (I.type.here ((looks_findIn X hne).here ?_)))))
    simp only [PySem.F.cmp_object.ne.bind]
    refine wpAny_bind (wpAny_askSetting (wpAny_ite ?_))
    have fin : wpAny (model prog w) A (call (.builtin "object.__ne__") ([.ref x] ++ [b]) >>= fun v => pure (some v)) (fun r s' => wpAny (model prog w) A (match r with
        | some .notImplemented | none => pure none
        | some v => pure (some v)) (fun r s' => ∃ v, r = some v ∧ Q v s') E s') E s := by
      refine wpAny_bind (wpAny_call (codeAny_call_builtin PySem.F.cmp_object.ne.plain PySem.F.cmpEntry_ne (check_slot PySem.F.cmpKind_ne PySem.F.cmpSplit_ne sub (PySem.F.cmpArgs_ne _ _)
        (objNe_K (A := A.in1) hu X I hs hf (wpAny_mono h (fun v s' hv => ?_) fun _ _ e => e)))))
      obtain ⟨r, rfl, hq⟩ := hv
      first | exact ⟨r, rfl, wpAny_pure (wpAny_pure ⟨_, rfl, hq⟩)⟩ | exact ⟨r, rfl, wpAny_pure ⟨_, rfl, hq⟩⟩
    split
    · repeat (first | exact fin | with_reducible refine wpAny_pure ?_ | with_reducible refine wpAny_bind ?_ | with_reducible refine wpAny_tryCatch ?_)
    · refine wpAny_tryCatch ?_
      repeat (first | exact fin | with_reducible refine wpAny_pure ?_ | with_reducible refine wpAny_bind ?_)
  unfold richCompare
  simp only [oneThing_ref]
  refine wpAny_holding (wpAny_bind (wpAny_cRoomFor (Nat.lt_of_succ_lt hu) ?_))
  refine wpAny_bind (I.type.here (wpAny_bind (hb.here ?_)))
  split
  · rename_i q
    have e : subIn K tb (.ref C) = some false := by
      rcases Bool.or_eq_true_iff.mp hn with e | e
      · rw [beq_iff_eq.mp e] at q; simp at q
      · exact beq_iff_eq.mp e
    refine wpAny_bind ((looks_subIn X e).here ?_)
    simp only [Bool.false_eq_true, if_false]
    refine wpAny_bind (wpAny_mono one (fun r s' z => ?_) fun _ _ e => e)
    obtain ⟨v, rfl, hq⟩ := z
    exact wpAny_pure hq
  · refine wpAny_bind (wpAny_pure ?_)
    simp only [Bool.false_eq_true, if_false]
    refine wpAny_bind (wpAny_mono one (fun r s' z => ?_) fun _ _ e => e)
    obtain ⟨v, rfl, hq⟩ := z
    exact wpAny_pure hq
end
end PySem.W

set_option Elab.async false
set_option maxRecDepth 100000
set_option maxHeartbeats 4000000
namespace L2
open PySem PySem.Spec PyProof.Rows
section
variable {X : Cx} {CX : CXT} {k : Nat} {f C : Addr} {fd : FuncData} {ps : List Str} {sp : Sp}
/-- the own method f, called at some frame below with room -/
theorem run_at {A : Around} {pins : List (Addr × Obj)} {σ : St} {H : Hp} {s : Shared} {Q : VK} {us : List Value} {vs : List V} (F : FnOk X.prog X.w X.K X.mg X.base CX k f fd ps sp) (hr : Room k A) (hA : A.frames = X.A.frames) (hb : Binds X.K fd ps []) (hx : Passes CX X E0)
    (I : Inv X pins σ H s) (r : Vals vs us) (h : sp vs H Q E0) : wpAny (model X.prog X.w) A (call (.ref f) us) (EP X pins σ Q) X.xe s := by
  have hl : us.length = ps.length := by rw [← r.length]; exact F.len _ _ _ _ h
  have e0 : Env0 X.prog X.w X.K X.mg X.base A X.stack s H := by
    have e := I.env0
    exact ⟨by rw [hA]; exact e.frames, e.mod, e.bs, e.bsz, e.funs, e.frf, e.hok, e.bare⟩
  refine wpAny_call (codeAny_mono (F.run A X.stack s H ⟨us, []⟩ us vs Q E0 hr e0 (by
    have := hb s us I.kIn (by simpa using hl)
    simpa using this) r h) fun r s' hq => ?_)
  cases r with
  | error e => exact hx pins σ H s e s' I hq
  | ok fl =>
    cases fl with
    | ret u => exact I.after hq
    | next => exact False.elim hq
    | brk => exact False.elim hq
    | cont => exact False.elim hq
/-- x == y, x an instance of the class at C, by its own ==; y anything whose type is known -/
def rEqO (K : PySem.W.Frag) (C : Addr) (sp : Sp) : R2 := fun x y H Q => ∃ a dx fs t, x = .ref a ∧ H a = some (.ins C dx fs) ∧ TyX K H y t ∧ PySem.W.notFirst K C t = true ∧ sp [x, y] H (fun v H' => ∃ b, v = .bl b ∧ Q (.bl b) H') E0
def rNeO (K : PySem.W.Frag) (C : Addr) (sp : Sp) : R2 := fun x y H Q => ∃ a dx fs t, x = .ref a ∧ H a = some (.ins C dx fs) ∧ TyX K H y t ∧ PySem.W.notFirst K C t = true ∧ sp [x, y] H (fun v H' => ∃ b, v = .bl b ∧ Q (.bl (!b)) H') E0
structure EqM (K : PySem.W.Frag) (C f : Addr) : Prop where
  eq : PySem.W.findIn K (.ref C) "__eq__" = some (some (.ref f))
  fn : PySem.W.isFn K (.ref f) = true
  ne : PySem.W.findIn K (.ref C) "__ne__" = some (some (.builtin "object.__ne__"))
  ob : PySem.W.mroIn K C (.type "object") = some true
theorem op_eqO (F : FnOk X.prog X.w X.K X.mg X.base CX k f fd ps sp) (M : EqM X.K C f) (hr : Room k X.A) (hb : Binds X.K fd ps []) (hx : Passes CX X E0) : OpR X (compareOp .Eq) (rEqO X.K C sp) := by
  intro pins s σ H x y v u Q I rx ry hq
  obtain ⟨a, dx, fs, t, rfl, ha, ty, hn, q⟩ := hq
  cases (show v = Value.ref a from rx)
  obtain ⟨P, Z, p, _⟩ := kit_of I ry ty
  obtain ⟨mA, J, _⟩ := ins_get I.hok ha
  obtain ⟨od, J, _⟩ := J.look
  obtain ⟨m, hF⟩ := I.fr
  show wpAny (model X.prog X.w) X.A (richCompare .Eq (.ref a) u) (EP X pins σ Q) X.xe s
  refine PySem.W.cmp_K (op := .Eq) (tb := t) hr.units0 hF I.ok.mod.kin J (Z.ty _ _ I.kIn p) hn M.eq M.fn ?_
  refine wpAny_mono (run_at (vs := [.ref a, y]) F hr rfl hb hx I (.cons rfl (.cons ry .nil)) q) (fun v' s' z => ?_) fun _ _ e => e
  obtain ⟨w', H', I', rv, b, rfl, q'⟩ := z
  cases rv
  exact ⟨.bl b, H', I', rfl, q'⟩
theorem op_neO (F : FnOk X.prog X.w X.K X.mg X.base CX k f fd ps sp) (M : EqM X.K C f) (hr : Room (k + 1) X.A) (hb : Binds X.K fd ps []) (hx : Passes CX X E0) : OpR X (compareOp .NotEq) (rNeO X.K C sp) := by
  intro pins s σ H x y v u Q I rx ry hq
  obtain ⟨a, dx, fs, t, rfl, ha, ty, hn, q⟩ := hq
  cases (show v = Value.ref a from rx)
  obtain ⟨P, Z, p, _⟩ := kit_of I ry ty
  obtain ⟨mA, J, _⟩ := ins_get I.hok ha
  obtain ⟨od, J, _⟩ := J.look
  obtain ⟨m, hF⟩ := I.fr
  show wpAny (model X.prog X.w) X.A (richCompare .NotEq (.ref a) u) (EP X pins σ Q) X.xe s
  refine PySem.W.cmpNe_K (tb := t) (by have := hr.units; omega) hF I.ok.mod.kin J (Z.ty _ _ I.kIn p) hn M.ne M.ob M.eq M.fn ?_
  refine wpAny_mono (run_at (vs := [.ref a, y]) F hr.in1 rfl hb hx I (.cons rfl (.cons ry .nil)) q) (fun v' s' z => ?_) fun _ _ e => e
  obtain ⟨w', H', I', rv, b, rfl, q'⟩ := z
  cases rv
  exact ⟨b, rfl, .bl (!b), H', I', rfl, q'⟩
/-- len(o), o an instance of the class at C with an own __len__ -/
def rLenO (C : Addr) (sp : Sp) : List V → Hp → VK → Prop := fun xs H Q => ∃ a dx fs, xs = [.ref a] ∧ H a = some (.ins C dx fs) ∧ sp [.ref a] H (fun v H' => ∃ n : Int, v = .int n ∧ (0 ≤ n ∧ n < 2 ^ 63) ∧ Q (.int n) H') E0
theorem call_lenO (F : FnOk X.prog X.w X.K X.mg X.base CX k f fd ps sp) (hs : PySem.W.findIn X.K (.ref C) "__len__" = some (some (.ref f))) (hf : PySem.W.isFn X.K (.ref f) = true) (hr : Room (k + 1) X.A) (hb : Binds X.K fd ps []) (hx : Passes CX X E0) :
    CallR X (.builtin "len") (rLenO C sp) := by
  intro pins s σ H xs us Q I r h
  obtain ⟨a, dx, fs, rfl, ha, q⟩ := h
  cases r with
  | cons rx rr =>
    rename_i u us'
    cases rr
    cases (show u = Value.ref a from rx)
    obtain ⟨mA, J, _⟩ := ins_get I.hok ha
    obtain ⟨od, J, _⟩ := J.look
    obtain ⟨m, hF⟩ := I.fr
    refine PySem.W.len_K hF I.ok.mod.kin J hs hf ?_
    refine wpAny_mono (run_at (vs := [.ref a]) F hr.in1 rfl hb hx I (.cons rfl .nil) q) (fun v' s' z => ?_) fun _ _ e => e
    obtain ⟨w', H', I', rv, n, rfl, hn, q'⟩ := z
    obtain ⟨t, rfl⟩ := (show ∃ t, v' = Value.int n t from rv)
    exact ⟨hn, .int n, H', I'.tok _, ⟨_, rfl⟩, q'⟩
end
end L2

set_option Elab.async false
set_option maxRecDepth 100000
set_option maxHeartbeats 4000000
namespace PySem.W
open PySem PySem.Spec PySem.Calls PyProof.Rows
section
variable {K : Frag} {C : Addr}
theorem findObj_dat {od : Option Obj} {name : Str} {a g : Value} (hc : (clsIn K C).isSome = true) (ha : findIn K (.ref C) name = some (some a)) (hg : specialIn K a "__get__" = some (some g)) (ht : takesIn K a = some true) :
    findObj K C od name = some (.bind g a) := by
  obtain ⟨cd, hc⟩ := Option.isSome_iff_exists.mp hc
  simp [findObj, hc, ha, hg, ht]
variable {prog : Program} {w : World} {A : Around} {E : Value → Shared → Prop} {s : Shared} {x D : Addr} {ox : Obj}
theorem kin_classD {od : Option Obj} {Q : Option Value → Shared → Prop} (T : L2.ExcC K D)
    (X : K.In s.heap) (I : InstAt s.heap x ox D od) (h : Q (some (.ref D)) { s with toks := s.toks + 1 }) : wpAny (model prog w) A (getAttr? (.ref x) "__class__") Q E s := by
  have hf : findObj K D od "__class__" = some (.bind (.builtin "getset_descriptor.__get__") (.builtin "object.__class__")) :=
    findObj_dat (by obtain ⟨cd, hc, _⟩ := any_some T.hd; rw [hc]; rfl) T.ha T.hn T.ht
  obtain ⟨hp, g, d, t, os⟩ := s
  have L0 := I.type (M := model prog w)
  have L1 := looks_findIn (M := model prog w) X T.hg
  have L2 := looks_findIn (M := model prog w) X T.hk
  have L3 := looks_find (M := model prog w) X I hf
  have sub : Looks (model prog w) hp (isInstance (.ref x) (.type "BaseException")) true := L0.andThen (looks_subIn X T.hs)
  have hx0 : (false && onTheHeap (Value.builtin "BaseException.__getattribute__")) = false := rfl
  have hx2 : (Value.builtin "BaseException.__getattribute__" == Value.builtin "object.__getattribute__") = false := by decide +kernel
  have hx1 : (onTheHeap (Value.ref D) && Value.builtin "BaseException.__getattribute__" == Value.builtin "object.__getattribute__") = false := by rw [hx2]; rfl
  unfold getAttr? getAttrBy? getAttrBy
  refine wpAny_bind (wpAny_mkText (wpAny_bind (wpAny_attempt (wpAny_holding (wpAny_bind (L0.at (wpAny_bind (L1.at ?_))))))))
  show wpAny _ _ (if (onTheHeap (Value.ref D) && Value.builtin "BaseException.__getattribute__" == Value.builtin "object.__getattribute__") = true then _ else _) _ _ _
  rw [hx1, if_neg Bool.false_ne_true]
  unfold getAttrByItsOwn hookBefore
  refine wpAny_bind ?_
  rw [if_pos (show onTheHeap (Value.ref D) = true from rfl)]
  refine L2.at ?_
  refine wpAny_bind (wpAny_attempt (wpAny_holding ?_))
  unfold callGetattribute
  rw [hx0, if_neg Bool.false_ne_true]
  unfold boundAndCalled
  rw [PySem.F.excAttr_ValueError.ga.bind (.ref x)]
  refine wpAny_bind (wpAny_pure ?_)
  show wpAny _ _ (call (.builtin "BaseException.__getattribute__") [.ref x, .str "__class__" t]) _ _ _
  refine wpAny_call (codeAny_call_builtin PySem.F.excAttr_ValueError.ga.plain PySem.F.entry_bexc_ga ?_)
  refine @check_slot (model prog w) _ _ ⟨hp, g, d, t + 1, os⟩ "BaseException.__getattribute__" "BaseException" "__getattribute__" (.ref x) [.str "__class__" t] [] _ (by decide +kernel) (by decide +kernel) sub (PySem.F.args_bexc_ga (.ref x) (.str "__class__" t)) ?_
  unfold Builtin.«object.__getattribute__»
  refine wpAny_bind (wpAny_of_eq (a := ((Value.ref x : Value), [Value.str "__class__" t])) (by first | rfl | (simp only [slotArgs]; rfl)) ?_)
  refine wpAny_bind (wpAny_pure (wpAny_bind (L0.at (wpAny_bind (L3.at ?_)))))
  show wpAny _ _ (holding [Value.builtin "object.__class__"] (call (.builtin "getset_descriptor.__get__") [.builtin "object.__class__", .ref x, .ref D]) >>= ret) _ _ _
  refine wpAny_bind (wpAny_holding (wpAny_call (class_get (s := ⟨hp, g, d, t + 1, os⟩) (ox := ox) (od := od) X I T.hm ?_)))
  refine wpAny_pure ?_
  show wpAny _ _ (handedOut (.ref D)) _ _ _
  rw [handedOut_of (v := .ref D) rfl]
  first
    | exact wpAny_pure (wpAny_pure h)
    | exact wpAny_pure h
    | exact wpAny_pure (wpAny_bind (wpAny_pure (wpAny_pure h)))
theorem kitx_excD (T : L2.ExcC K D) : KitX K (.ref x) (.ref D) (fun h => ∃ od, InstAt h x ox D od) where
  ty := fun _ _ _ I => by
    obtain ⟨_, I⟩ := I
    exact I.type
  it := fun M h X _ => by
    obtain ⟨cdD, hcD, _⟩ := any_some T.hd
    unfold clsIn at hcD
    split at hcD
    · rename_i c' d' cd' sl' ho
      intro A' Q' E' s' k q
      unfold isType loadHead
      exact wpAny_bind (wpAny_loadPart (k _ _ (X _ _ ho)) (wpAny_pure q))
    · cases hcD
  ne := fun h tp dd its n sl X htp => by
    obtain ⟨cdD, hcD, _⟩ := any_some T.hd
    refine Bool.eq_false_iff.mpr fun q => ?_
    have e : D = tp := Value.ref.inj (beq_iff_eq.mp q)
    subst e
    unfold clsIn at hcD
    split at hcD
    · rename_i c' d' cd' sl' ho
      have z := (X _ _ ho).symm.trans htp
      cases z
    · cases hcD
  ca := fun X I k => by
    obtain ⟨_, I⟩ := I
    exact kin_classD T X I k
end
end PySem.W
namespace L2
open PySem PySem.Spec PyProof.Rows
section
variable {X : Cx}
/-- isinstance(e, c), e the exception that the suite holds, with a dict or without -/
theorem call_isED {a D : Addr} {d : Option Addr} {oe : Obj} {pn : List (Addr × Obj)} (C : ExcC X.K D) (hz : Zc (.ref D) d oe) (hf : ∃ vs, oe.data = .fields vs) (hd : ∀ (pins : List (Addr × Obj)) (σ : St) (H : Hp) (s : Shared), Inv (X.suite a ((a, oe) :: pn)) pins σ H s → ∀ dd, d = some dd → ∃ od, s.heap.get? dd = some od) :
    CallR (X.suite a ((a, oe) :: pn)) (.builtin "isinstance") (rIsE X.K D a) := by
  intro pins s σ H xs us Q I r h
  obtain ⟨c, cv, b, rfl, hcv, e, q⟩ := h
  cases r with
  | cons rx rr =>
    cases rr with
    | cons rt rr =>
      cases rr
      cases rx
      have ec := hcv _ rt
      subst ec
      obtain ⟨hget, _⟩ := I.pin (a, oe) (List.mem_append.mpr (.inl List.mem_cons_self))
      obtain ⟨vs, hv⟩ := hf
      have J : ∃ od, PySem.W.InstAt s.heap a oe D od := by
        have hd' := hd pins σ H s I
        obtain ⟨oc, od, oda, osl⟩ := oe
        obtain ⟨h1, h2⟩ := hz
        dsimp only at h1 h2 hv
        subst h1 h2 hv
        cases od with
        | none => exact ⟨none, hget, rfl, rfl, trivial⟩
        | some dd =>
          obtain ⟨o, ho⟩ := hd' dd rfl
          exact ⟨some o, hget, rfl, rfl, ho⟩
      exact PySem.W.kia_one (PySem.W.kitx_excD C) I.kIn J e (fun z => nomatch z) fun tk => ⟨.bl b, H, I.kept (t' := tk) fun _ _ z => z, rfl, q⟩
/-- the same where the dict is tracked: the reading asks it -/
def rIsED (K : PySem.W.Frag) (D a : Addr) (cls : Value) (d : Option Addr) : List V → Hp → VK → Prop := fun xs H Q => cls = .ref D ∧ (∀ dd, d = some dd → ∃ fs, H dd = some (.xd fs)) ∧ ∃ (c : V) (cv : Value) (b : Bool), xs = [.ref a, c] ∧ (∀ u, RelV c u → u = cv) ∧ PySem.W.kitOne K (.ref D) cv = some b ∧ Q (.bl b) H
theorem call_isEX {a D : Addr} {cls : Value} {d : Option Addr} {oe : Obj} {pn : List (Addr × Obj)} (C : ExcC X.K D) (hz : Zc cls d oe) (hf : ∃ vs, oe.data = .fields vs) : CallR (X.suite a ((a, oe) :: pn)) (.builtin "isinstance") (rIsED X.K D a cls d) := by
  intro pins s σ H xs us Q I r h
  obtain ⟨ec0, hdd, c, cv, b, rfl, hcv, e, q⟩ := h
  subst ec0
  cases r with
  | cons rx rr =>
    cases rr with
    | cons rt rr =>
      cases rr
      cases rx
      have ec := hcv _ rt
      subst ec
      obtain ⟨hget, _⟩ := I.pin (a, oe) (List.mem_append.mpr (.inl List.mem_cons_self))
      obtain ⟨vs, hv⟩ := hf
      have J : ∃ od, PySem.W.InstAt s.heap a oe D od := by
        obtain ⟨oc, od, oda, osl⟩ := oe
        obtain ⟨h1, h2⟩ := hz
        dsimp only at h1 h2 hv
        subst h1 h2 hv
        cases od with
        | none => exact ⟨none, hget, rfl, rfl, trivial⟩
        | some dd =>
          obtain ⟨fs, hfs⟩ := hdd dd rfl
          obtain ⟨mA, hns, _⟩ := (show ObjOk X.prog X.w H s.heap dd (.xd fs) from I.hok dd _ hfs)
          obtain ⟨od, ho, _⟩ := lookIn_ns hns
          exact ⟨some od, hget, rfl, rfl, ho⟩
      exact PySem.W.kia_one (PySem.W.kitx_excD C) I.kIn J e (fun z => nomatch z) fun tk => ⟨.bl b, H, I.kept (t' := tk) fun _ _ z => z, rfl, q⟩
end
section
variable {X : Cx} {CX : CXT} {k : Nat} {f C : Addr} {fd : FuncData} {ps : List Str} {sp : Sp} {dvs : List V} {ds : List Value} {E : St → XK} {x m : Str} {p pos apos : Pos} {e o : Expr} {es : List Expr} {ta : TE} {t : TA}
/-- C(e, ..) where what is raised is wished for at the slots as they stand -/
def tMakeS (C : Addr) (sp : Sp) (dvs : List V) (E : St → XK) (t : TA) : TE := fun σ H Q => t σ H fun vs H1 => ∀ x dx, H1 x = none → H1 dx = none → dx ≠ x →
  sp (.ref x :: (vs ++ dvs)) (upd (upd H1 dx (.own x)) x (.ins C dx [])) (fun v H2 => v = .non ∧ Q (.ref x) H2) (fun cls d H2 => E σ cls d H2)
theorem run_makeS {pins : List (Addr × Obj)} {σ : St} {H : Hp} {s : Shared} {Q : VK} {us : List Value} {vs : List V} (M : Mk X.K C f) (F : FnOk X.prog X.w X.K X.mg X.base CX k f fd ps sp) (hr : Room (k + 1) X.A) (hb : Binds X.K fd ps ds) (hd : Vals dvs ds)
    (hx : PassesAt CX X σ (E σ)) (I : Inv X pins σ H s) (r : Vals vs us)
    (h : ∀ x dx, H x = none → H dx = none → dx ≠ x → sp (.ref x :: (vs ++ dvs)) (upd (upd H dx (.own x)) x (.ins C dx [])) (fun v H2 => v = .non ∧ Q (.ref x) H2) (E σ)) :
    wpAny (model X.prog X.w) X.A (call (.ref C) us) (EP X pins σ Q) X.xe s := by
  have hq := h (s.heap.objs.size + 1) s.heap.objs.size (I.hok.fresh (Nat.le_succ _)) (I.hok.fresh (Nat.le_refl _)) (Nat.ne_of_lt (Nat.lt_succ_self _))
  have I2 := Inv.made (C := C) I
  have r2 : Vals (V.ref (s.heap.objs.size + 1) :: (vs ++ dvs)) (Value.ref (s.heap.objs.size + 1) :: (us ++ ds)) := .cons rfl (r.append hd)
  have hl : (Value.ref (s.heap.objs.size + 1) :: us ++ ds).length = ps.length := by
    have e := r2.length
    rw [F.len _ _ _ _ hq] at e
    exact e.symm
  refine wpAny_call (make_map (f := f) I.kIn M.makes M.init (beq_iff_eq.mp M.fn) (codeAny_mono (F.run _ X.stack _ _ ⟨Value.ref (s.heap.objs.size + 1) :: us, []⟩ (Value.ref (s.heap.objs.size + 1) :: (us ++ ds)) _ _ (E σ) (hr.make C us [])
    (I2.env0.make C us []) (hb _ (Value.ref (s.heap.objs.size + 1) :: us) I2.kIn hl) r2 hq) fun r s' hq' => ?_))
  cases r with
  | error e => exact hx pins _ _ e s' I2 hq'
  | ok fl =>
    cases fl with
    | ret u =>
      obtain ⟨v, H', I3, rv, ev, q3⟩ := I2.after hq'
      subst ev
      exact ⟨rv, ⟨V.ref (s.heap.objs.size + 1), H', I3, rfl, q3⟩⟩
    | next => exact False.elim hq'
    | brk => exact False.elim hq'
    | cont => exact False.elim hq'
theorem pe_makeS (M : Mk X.K C f) (F : FnOk X.prog X.w X.K X.mg X.base CX k f fd ps sp) (hr : Room (k + 1) X.A) (hg : Gl X x) (hm : X.mg x = some (.ref C)) (hb : Binds X.K fd ps ds) (hd : Vals dvs ds) (hx : ∀ σ, PassesAt CX X σ (E σ))
    (ha : PA X (e :: es) t) (hdb : (x == ("__debug__" : Str)) = false := by decide) (he : starEach (e :: es) X.env = (false, eval e X.env) :: starEach es X.env := by rfl) (hpl : (backTo pos (starEach es X.env)).any (·.1) = false := by rfl) :
    PE X (.Call (.Name x p) (e :: es) [] pos) (tMakeS C sp dvs E t) := by
  refine ⟨fun pins s σ H Q I h => ?_⟩
  refine wpAny_Call_Name_kw (ld_glob I hg hm ?_ hdb)
  refine PySem.W.callWith_K (h₀ := X.base) I.ok.mod.kin M.kp (thn (ha.run pos pins s σ H _ I h) fun us s1 ⟨vs, H1, I1, r, q⟩ => ⟨I1.kIn, ?_⟩) he hpl
  exact run_makeS M F hr hb hd (hx σ) I1 r q
/-- o.m(e, ..) | o.m() likewise -/
def tMethSD (C : Addr) (m : Str) (sp : Sp) (dvs : List V) (E : St → XK) (ta : TE) (t : TA) : TE := fun σ H Q => ta σ H fun x H1 => ∃ a dx fs, x = .ref a ∧ H1 a = some (.ins C dx fs) ∧ fs.lookup m = none ∧
  t σ H1 fun vs H2 => sp (x :: (vs ++ dvs)) H2 Q (E σ)
theorem pe_methSD {pl : Sem Bool} (he : PE X o ta) (c : Cls X.K C) (hm : Meth X.K C m f) (F : FnOk X.prog X.w X.K X.mg X.base CX k f fd ps sp) (hr : Room k X.A) (hb : Binds X.K fd ps ds) (hd : Vals dvs ds) (hx : ∀ σ, PassesAt CX X σ (E σ)) (ha : PA X (e :: es) t)
    (hst : starEach (e :: es) X.env = (false, eval e X.env) :: starEach es X.env := by rfl) (hpl : (backTo pos (starEach es X.env)).any (·.1) = false := by rfl)
    (ht : eval (.Call (.Attribute o m apos) (e :: es) [] pos) X.env = (do
      let ov ← eval o X.env
      standAt apos.atName
      let (f, first) ← holding [ov] (getMethod ov m pl)
      callWith pos f first (backTo pos (starEach (e :: es) X.env)) (backToKw pos (keywordEach [] X.env))) := by rfl) :
    PE X (.Call (.Attribute o m apos) (e :: es) [] pos) (tMethSD C m sp dvs E ta t) := by
  refine ⟨fun pins s σ H Q I h => ?_⟩
  refine PySem.W.methodCall_KW (pl := pl) (thn (he.run pins s σ H _ I h) fun u s1 ⟨x, H1, I1, rx, a, dx, fs, ex, ea, l, q⟩ => ?_) ht
  subst ex
  obtain rfl : u = Value.ref a := rx
  refine getmeth_ok I1 ea c hm l ?_
  refine PySem.W.callWith_K (first := [.ref a]) (h₀ := X.base) I.ok.mod.kin hm.kp (thn (ha.run pos pins s1 σ H1 _ I1 q) fun us s2 ⟨vs, H2, I2, r, q2⟩ => ⟨I2.kIn, ?_⟩) hst hpl
  exact run_fnSD (us := .ref a :: us) (vs := .ref a :: vs) F hr hb hd (hx σ) I2 (.cons rfl r) q2
theorem pe_methSD0 {pl : Sem Bool} (he : PE X o ta) (c : Cls X.K C) (hm : Meth X.K C m f) (F : FnOk X.prog X.w X.K X.mg X.base CX k f fd ps sp) (hr : Room k X.A) (hb : Binds X.K fd ps ds) (hd : Vals dvs ds) (hx : ∀ σ, PassesAt CX X σ (E σ))
    (ht : eval (.Call (.Attribute o m apos) [] [] pos) X.env = (do
      let ov ← eval o X.env
      standAt apos.atName
      let (f, first) ← holding [ov] (getMethod ov m pl)
      callWith pos f first (backTo pos (starEach [] X.env)) (backToKw pos (keywordEach [] X.env))) := by rfl) :
    PE X (.Call (.Attribute o m apos) [] [] pos) (tMethSD C m sp dvs E ta tNil) := by
  refine ⟨fun pins s σ H Q I h => ?_⟩
  refine PySem.W.methodCall_KW (pl := pl) (thn (he.run pins s σ H _ I h) fun u s1 ⟨x, H1, I1, rx, a, dx, fs, ex, ea, l, q⟩ => ?_) ht
  subst ex
  obtain rfl : u = Value.ref a := rx
  refine getmeth_ok I1 ea c hm l ?_
  exact PySem.W.callWith_K0 (first := [.ref a]) I1.kIn hm.kp (run_fnSD (us := [.ref a]) (vs := [.ref a]) F hr hb hd (hx σ) I1 (.cons rfl .nil) q)
end

/-! ### own errors with one field -/
/-- what __init__ of such an error does: self.f = v -/
def spXI (C : Addr) (f : Str) : Sp := fun vs H Q _ => ∃ (a : Addr) (y : V), vs = [.ref a, y] ∧ H a = some (exo a C none) ∧ ∀ dx, H dx = none → dx ≠ a → Q .non (upd (upd H dx (exd dx [(f, y)])) a (exo a C (some dx)))
/-- all that is asked of the class x of errors at C, whose field is f -/
structure XCls (P : Program) (w : World) (K : PySem.W.Frag) (mg : Str → Option Value) (base : Heap) (x f : Str) (C : Addr) : Prop where
  ox : OexC K C
  gC : mg x = some (.ref C)
  noA : PySem.W.findIn K (.ref C) f = some none
  ec : ExcC K C
  ini : ∃ (fI : Addr) (fd : FuncData), PySem.W.findIn K (.ref C) "__init__" = some (some (.ref fI)) ∧ PySem.W.typeIn K (.ref fI) = some (.type "function") ∧ FnOk P w K mg base CX0 1 fI fd ["self", f] (spXI C f) ∧ Binds K fd ["self", f] []
theorem XCls.xf {P : Program} {w : World} {K : PySem.W.Frag} {mg : Str → Option Value} {base : Heap} {x f : Str} {C : Addr} (T : XCls P w K mg base x f C) : XfC K C := ⟨T.ec.hg, T.ec.hk, T.ec.hs, T.ec.hd⟩
section
variable {X : Cx} {C : Addr} {x f : Str} {e : Expr} {te : TE} {p pos pos2 : Pos}
theorem pmk_X (T : XCls X.prog X.w X.K X.mg X.base x f C) (hr : Room 2 X.A) (he : PE X e te) (hg : Gl X x) (hdb : (x == ("__debug__" : Str)) = false := by decide)
    (hs : starEach [e] X.env = (false, eval e X.env) :: starEach [] X.env := by rfl) (hpl : (backTo pos (starEach [] X.env)).any (·.1) = false := by rfl) :
    PMk X (.Call (.Name x p) [e] [] pos) (tMkO C (spXI C f) [] (tCons te tNil)) := by
  obtain ⟨fI, fd, i1, i2, F, b⟩ := T.ini
  exact pmk_oex (dvs := []) (ds := []) T.ox i1 i2 F hr b .nil pass0 hg T.gC (pa_cons he pa_nil hs) hdb hs hpl
/-- what is left to be shown behind the argument y -/
theorem mkX_fin {H1 : Hp} {y : V} {Q : XK} (h : ∀ d, H1 d = none → Q (.ref C) (some d) (upd H1 d (.xd [(f, y)]))) :
    [y].length ≤ 1000 ∧ ∀ a, H1 a = none → spXI C f (.ref a :: ([y] ++ [])) (upd H1 a (exo a C none))
      (fun v H2 => v = .non ∧ ∃ (d : Addr) (fs : List (Str × V)), H2 a = some (exo a C (some d)) ∧ H2 d = some (exd d fs) ∧ H1 d = none ∧ Q (.ref C) (some d) (upd (del H2 a) d (.xd fs))) (fun _ _ _ => False) := by
  refine ⟨by show 1 ≤ 1000; decide, fun a ha => ⟨a, y, rfl, upd_same, fun dx hdx hne => ⟨rfl, dx, [(f, y)], upd_same, ?_, ?_, ?_⟩⟩⟩
  · rw [upd_ne hne, upd_same]
  · rw [upd_ne hne] at hdx
    exact hdx
  · have hdx' : H1 dx = none := by
      rw [upd_ne hne] at hdx
      exact hdx
    have e : upd (del (upd (upd (upd H1 a (exo a C none)) dx (exd dx [(f, y)])) a (exo a C (some dx))) a) dx (.xd [(f, y)]) = upd H1 dx (.xd [(f, y)]) := by
      funext b
      by_cases hb : b = dx
      · rw [hb, upd_same, upd_same]
      · rw [upd_ne hb, upd_ne hb]
        by_cases hba : b = a
        · rw [hba, del_same, ha]
        · rw [del_ne hba, upd_ne hba, upd_ne hb, upd_ne hba]
    rw [e]
    exact h dx hdx'
end
end L2

set_option Elab.async false
set_option maxRecDepth 100000
set_option maxHeartbeats 4000000
namespace L2
open PySem PySem.Spec PyProof.Rows
section
variable (P : Program) (w : World) (K : PySem.W.Frag) (mg : Str → Option Value) (base : Heap)
/-- a def of the top, as the text has it -/
structure DefAt (x : Str) (st : Stmt) (ps : List Str) : Prop where
  ex : ∃ (f : Addr) (fd : FuncData), Fun K x x st f fd ∧ mg x = some (.ref f) ∧ Binds K fd ps []
/-- a def of the top that keeps its promise -/
structure Own (CX : CXT) (x : Str) (k : Nat) (ps : List Str) (sp : Sp) : Prop where
  ex : ∃ (f : Addr) (fd : FuncData), FnOk P w K mg base CX k f fd ps sp ∧ mg x = some (.ref f) ∧ PySem.W.keepIn K (.ref f) = true ∧ Binds K fd ps []
/-- a method of the class at C, as the text has it; one that keeps its promise -/
structure MethAt (C : Addr) (m qual : Str) (st : Stmt) (ps : List Str) : Prop where
  ex : ∃ (f : Addr) (fd : FuncData), Fun K m qual st f fd ∧ PySem.W.findIn K (.ref C) m = some (some (.ref f)) ∧ PySem.W.isFn K (.ref f) = true ∧ Binds K fd ps []
structure OwnM (CX : CXT) (C : Addr) (m : Str) (k : Nat) (ps : List Str) (sp : Sp) : Prop where
  ex : ∃ (f : Addr) (fd : FuncData), FnOk P w K mg base CX k f fd ps sp ∧ Meth K C m f ∧ PySem.W.isFn K (.ref f) = true ∧ Binds K fd ps []
/-- a class of the top with an own __init__ that keeps its promise -/
structure OwnC (CX : CXT) (x : Str) (C : Addr) (k : Nat) (ps : List Str) (sp : Sp) : Prop where
  ex : ∃ (f : Addr) (fd : FuncData), FnOk P w K mg base CX k f fd ps sp ∧ Mk K C f ∧ mg x = some (.ref C) ∧ Binds K fd ps []
end
section
variable {P : Program} {w : World} {K : PySem.W.Frag} {mg : Str → Option Value} {base : Heap} {CX : CXT} {x m qual : Str} {k : Nat} {ps : List Str} {sp : Sp} {st : Stmt} {C : Addr}
theorem DefAt.own (D : DefAt K mg x st ps) (h : ∀ f fd, Fun K x x st f fd → FnOk P w K mg base CX k f fd ps sp) : Own P w K mg base CX x k ps sp := by
  obtain ⟨f, fd, F, hm, hb⟩ := D.ex
  exact ⟨f, fd, h f fd F, hm, F.kp, hb⟩
theorem MethAt.own (D : MethAt K C m qual st ps) (h : ∀ f fd, Fun K m qual st f fd → FnOk P w K mg base CX k f fd ps sp) : OwnM P w K mg base CX C m k ps sp := by
  obtain ⟨f, fd, F, hm, hi, hb⟩ := D.ex
  exact ⟨f, fd, h f fd F, ⟨hm, hi, F.kp⟩, hi, hb⟩
theorem MethAt.cls (D : MethAt K C "__init__" qual st ps) (h : ∀ f fd, Fun K "__init__" qual st f fd → FnOk P w K mg base CX k f fd ps sp) (m1 : PySem.W.makesIn K C = true) (m2 : PySem.W.keepIn K (.ref C) = true) (m3 : mg x = some (.ref C)) :
    OwnC P w K mg base CX x C k ps sp := by
  obtain ⟨f, fd, F, hm, hi, hb⟩ := D.ex
  exact ⟨f, fd, h f fd F, ⟨m1, hm, hi, m2⟩, m3, hb⟩
end
section
variable {X : Cx} {CX : CXT} {x m : Str} {k : Nat} {ps : List Str} {sp : Sp} {e o : Expr} {es : List Expr} {t : TA} {ta : TE} {p pos apos : Pos} {C : Addr}
theorem pe_own (O : Own X.prog X.w X.K X.mg X.base CX x k ps sp) (hr : Room k X.A) (hx : Passes CX X E0) (ha : PA X (e :: es) t) (hg : Gl X x := by rfl) (hdb : (x == ("__debug__" : Str)) = false := by decide)
    (he : starEach (e :: es) X.env = (false, eval e X.env) :: starEach es X.env := by rfl) (hpl : (backTo pos (starEach es X.env)).any (·.1) = false := by rfl) : PE X (.Call (.Name x p) (e :: es) [] pos) (tCall sp [] E0 t) := by
  obtain ⟨f, fd, F, hm, hk, hb⟩ := O.ex
  exact pe_call F hr hg hm hk hb .nil hx ha hdb he hpl
theorem pe_own0 (O : Own X.prog X.w X.K X.mg X.base CX x k ps sp) (hr : Room k X.A) (hx : Passes CX X E0) (hg : Gl X x := by rfl) (hdb : (x == ("__debug__" : Str)) = false := by decide) : PE X (.Call (.Name x p) [] [] pos) (tCall sp [] E0 tNil) := by
  obtain ⟨f, fd, F, hm, hk, hb⟩ := O.ex
  exact pe_call0 F hr hg hm hk hb .nil hx hdb
/-- one that may raise; W is wished for what it raises -/
theorem pe_ownS {W : WX} (O : Own X.prog X.w X.K X.mg X.base (L2.CX X.prog X.w) x k ps sp) (hr : Room k X.A) (tk : Takes X W) (ha : PA X (e :: es) t) (hg : Gl X x := by rfl) (hdb : (x == ("__debug__" : Str)) = false := by decide)
    (he : starEach (e :: es) X.env = (false, eval e X.env) :: starEach es X.env := by rfl) (hpl : (backTo pos (starEach es X.env)).any (·.1) = false := by rfl) : PE X (.Call (.Name x p) (e :: es) [] pos) (tCallS sp (WE W) t) := by
  obtain ⟨f, fd, F, hm, hk, hb⟩ := O.ex
  exact pe_callS F hr hg hm hk hb (fun σ => passAt tk σ) ha hdb he hpl
theorem pe_new (O : OwnC X.prog X.w X.K X.mg X.base CX x C k ps sp) (hr : Room (k + 1) X.A) (hx : Passes CX X E0) (ha : PA X (e :: es) t) (hg : Gl X x := by rfl) (hdb : (x == ("__debug__" : Str)) = false := by decide)
    (he : starEach (e :: es) X.env = (false, eval e X.env) :: starEach es X.env := by rfl) (hpl : (backTo pos (starEach es X.env)).any (·.1) = false := by rfl) : PE X (.Call (.Name x p) (e :: es) [] pos) (tMake C sp [] E0 t) := by
  obtain ⟨f, fd, F, M, hm, hb⟩ := O.ex
  exact pe_make M F hr hg hm hb .nil hx ha hdb he hpl
theorem pe_newS {W : WX} (O : OwnC X.prog X.w X.K X.mg X.base (L2.CX X.prog X.w) x C k ps sp) (hr : Room (k + 1) X.A) (tk : Takes X W) (ha : PA X (e :: es) t) (hg : Gl X x := by rfl) (hdb : (x == ("__debug__" : Str)) = false := by decide)
    (he : starEach (e :: es) X.env = (false, eval e X.env) :: starEach es X.env := by rfl) (hpl : (backTo pos (starEach es X.env)).any (·.1) = false := by rfl) : PE X (.Call (.Name x p) (e :: es) [] pos) (tMakeS C sp [] (WE W) t) := by
  obtain ⟨f, fd, F, M, hm, hb⟩ := O.ex
  exact pe_makeS M F hr hg hm hb .nil (fun σ => passAt tk σ) ha hdb he hpl
theorem pe_gint {n : Int} (hm : ∃ t, X.mg x = some (.int n t)) (hg : Gl X x := by rfl) (hd : (x == ("__debug__" : Str)) = false := by decide) : PE X (.Name x pos) (tC (.int n)) := by
  obtain ⟨t, hm⟩ := hm
  exact pe_glob hg hm ⟨t, rfl⟩ hd
theorem pe_gcls (hm : X.mg x = some (.ref C)) (hg : Gl X x := by rfl) (hd : (x == ("__debug__" : Str)) = false := by decide) : PE X (.Name x pos) (tC (.ref C)) := pe_glob hg hm rfl hd
end
/-! ### ==, != by own methods, len -/
section
variable {X : Cx} {CX : CXT} {k : Nat} {C : Addr} {ps : List Str} {sp : Sp}
structure NeM (K : PySem.W.Frag) (C : Addr) : Prop where
  ne : PySem.W.findIn K (.ref C) "__ne__" = some (some (.builtin "object.__ne__"))
  ob : PySem.W.mroIn K C (.type "object") = some true
theorem eqO (O : OwnM X.prog X.w X.K X.mg X.base CX C "__eq__" k ps sp) (N : NeM X.K C) (hr : Room k X.A) (hx : Passes CX X E0) : OpR X (compareOp .Eq) (rEqO X.K C sp) := by
  obtain ⟨f, fd, F, M, hi, hb⟩ := O.ex
  exact op_eqO F ⟨M.at_, hi, N.ne, N.ob⟩ hr hb hx
theorem neO (O : OwnM X.prog X.w X.K X.mg X.base CX C "__eq__" k ps sp) (N : NeM X.K C) (hr : Room (k + 1) X.A) (hx : Passes CX X E0) : OpR X (compareOp .NotEq) (rNeO X.K C sp) := by
  obtain ⟨f, fd, F, M, hi, hb⟩ := O.ex
  exact op_neO F ⟨M.at_, hi, N.ne, N.ob⟩ hr hb hx
theorem lenO (O : OwnM X.prog X.w X.K X.mg X.base CX C "__len__" k ps sp) (hr : Room (k + 1) X.A) (hx : Passes CX X E0) : CallR X (.builtin "len") (rLenO C sp) := by
  obtain ⟨f, fd, F, M, hi, hb⟩ := O.ex
  exact call_lenO F M.at_ hi hr hb hx
end
end L2

set_option Elab.async false
set_option maxRecDepth 100000
set_option maxHeartbeats 4000000
/-! kinds of plain values; their isinstance -/
namespace L2
open PySem PySem.Spec PyProof.Rows
inductive Knd | int | bool | none | str | list | tuple
  deriving DecidableEq
def Knd.name : Knd → String
  | .int => "int" | .bool => "bool" | .none => "NoneType" | .str => "str" | .list => "list" | .tuple => "tuple"
def KndOf (H : Hp) (v : V) : Knd → Prop
  | .int => ∃ n, v = .int n
  | .bool => ∃ b, v = .bl b
  | .none => v = .non
  | .str => ∃ s, v = .str s
  | .list => ∃ a xs, v = .ref a ∧ H a = some (.lst xs)
  | .tuple => ∃ a xs, v = .ref a ∧ H a = some (.tup xs)
def Knd.isInt : Knd → Bool | .int => true | .bool => true | _ => false
def Knd.isBool : Knd → Bool | .bool => true | _ => false
def Knd.isSeq : Knd → Bool | .list => true | .tuple => true | _ => false
def Knd.isTup : Knd → Bool | .tuple => true | _ => false
def Knd.isList : Knd → Bool | .list => true | _ => false
def Knd.isStr : Knd → Bool | .str => true | _ => false
section
variable {K : PySem.W.Frag} {H : Hp} {v : V} {k : Knd}
theorem knd_ty (h : KndOf H v k) : TyX K H v (.type k.name) := by
  cases k with
  | int => obtain ⟨n, rfl⟩ := h; exact .base (.int n)
  | bool => obtain ⟨n, rfl⟩ := h; exact .base (.bl n)
  | none => cases h; exact .base .non
  | str => obtain ⟨n, rfl⟩ := h; exact .base (.str n)
  | list => obtain ⟨a, xs, rfl, e⟩ := h; exact .base (.lst e)
  | tuple => obtain ⟨a, xs, rfl, e⟩ := h; exact .base (.tup e)
theorem knd_int : PySem.W.kitOne K (.type k.name) (.type "int") = some k.isInt := by cases k <;> exact kit_ty (by decide +kernel)
theorem knd_bool : PySem.W.kitOne K (.type k.name) (.type "bool") = some k.isBool := by cases k <;> exact kit_ty (by decide +kernel)
theorem knd_tup : PySem.W.kitOne K (.type k.name) (.type "tuple") = some k.isTup := by cases k <;> exact kit_ty (by decide +kernel)
theorem knd_list : PySem.W.kitOne K (.type k.name) (.type "list") = some k.isList := by cases k <;> exact kit_ty (by decide +kernel)
theorem knd_str : PySem.W.kitOne K (.type k.name) (.type "str") = some k.isStr := by cases k <;> exact kit_ty (by decide +kernel)
theorem knd_seq : PySem.W.kitAny K (.type k.name) [.type "list", .type "tuple"] = some k.isSeq := by
  cases k
  case list => exact kitAny_cons knd_list (by intro h; cases h) (fun _ => rfl)
  case tuple => exact kitAny_cons knd_list (fun _ => kitAny_cons knd_tup (by intro h; cases h) (fun _ => rfl)) (by intro h; cases h)
  all_goals exact kitAny_cons knd_list (fun _ => kitAny_cons knd_tup (fun _ => kitAny_nil) (by intro h; cases h)) (by intro h; cases h)
theorem KndOf.ext {H' : Hp} (h : KndOf H v k) (e : Ext H H') : KndOf H' v k := by
  cases k with
  | list => obtain ⟨a, xs, r, q⟩ := h; exact ⟨a, xs, r, e _ _ q⟩
  | tuple => obtain ⟨a, xs, r, q⟩ := h; exact ⟨a, xs, r, e _ _ q⟩
  | _ => exact h
theorem ki (n : Int) : KndOf H (.int n) .int := ⟨n, rfl⟩
theorem kb (n : Bool) : KndOf H (.bl n) .bool := ⟨n, rfl⟩
theorem kn : KndOf H .non .none := rfl
theorem ks (n : Str) : KndOf H (.str n) .str := ⟨n, rfl⟩
end
/-- a value that is an int from a to b -/
def betw (v : V) (a b : Int) : Bool := match v with
  | .int n => decide (a ≤ n) && decide (n ≤ b)
  | _ => false
theorem betw_int {n a b : Int} : betw (.int n) a b = (decide (a ≤ n) && decide (n ≤ b)) := rfl
theorem betw_not {H : Hp} {v : V} {k : Knd} {a b : Int} (h : KndOf H v k) (hk : (k.isInt && !k.isBool) = false) : betw v a b = false := by
  cases k with
  | int => cases hk
  | bool => obtain ⟨n, rfl⟩ := h; rfl
  | none => cases h; rfl
  | str => obtain ⟨n, rfl⟩ := h; rfl
  | list => obtain ⟨n, xs, rfl, _⟩ := h; rfl
  | tuple => obtain ⟨n, xs, rfl, _⟩ := h; rfl
theorem knd_yes {k : Knd} (h : (k.isInt && !k.isBool) = true) : k = .int := by cases k <;> first | rfl | cases h
/-! ### isinstance, read -/
section
variable {K : PySem.W.Frag} {σ : St} {H : Hp} {v : V} {k : Knd} {Q : VK} {te : TE}
theorem v_isI (hk : KndOf H v k) {b : Bool} {c : String} (e : PySem.W.kitOne K (.type k.name) (.type c) = some b) (q : Q (.bl b) H) : rIsi K [v, .ty c] H Q :=
  ⟨v, .ty c, .type k.name, .type c, b, rfl, .ty c, knd_ty hk, e, q⟩
end
end L2

set_option Elab.async false
set_option maxRecDepth 100000
set_option maxHeartbeats 4000000
namespace L2
open PySem PySem.Spec PyProof.Rows
section
variable {K : PySem.W.Frag} {C : Addr}
theorem no_ref (l : List String) : (l.map Value.type).contains (Value.ref C) = false := by
  induction l with
  | nil => rfl
  | cons a l ih =>
    rw [List.map_cons, List.contains_cons, ih]
    rfl
theorem sub_ty_ref {T : String} (h : (fastFind? T).isSome = true) : PySem.W.subIn K (.type T) (.ref C) = some false := by
  obtain ⟨r, hr⟩ := Option.isSome_iff_exists.mp h
  show (fastBuiltinMro T).map (·.contains (Value.ref C)) = some false
  unfold fastBuiltinMro
  rw [hr]
  show some ((r.mro.map Value.type).contains (Value.ref C)) = some false
  rw [no_ref]
theorem knd_find (k : Knd) : (fastFind? k.name).isSome = true := by cases k <;> decide +kernel
/-- all that is asked of an own plain class x at C -/
structure ClsX (K : PySem.W.Frag) (mg : Str → Option Value) (x : Str) (C : Addr) : Prop where
  gC : mg x = some (.ref C)
  cl : Cls K C
  ha : PySem.W.findIn K (.ref C) "__class__" = some (some (.builtin "object.__class__"))
  hn : PySem.W.specialIn K (.builtin "object.__class__") "__get__" = some (some (.builtin "getset_descriptor.__get__"))
  htk : PySem.W.takesIn K (.builtin "object.__class__") = some true
  hm : PySem.W.mroIn K C (.type "object") = some true
  ne : PySem.W.findIn K (.ref C) "__ne__" = some (some (.builtin "object.__ne__"))
  is : PySem.W.isClsIn K C = true
  ty : PySem.W.typeIn K (.ref C) = some (.type "type")
  tup : PySem.W.subIn K (.ref C) (.type "tuple") = some false
  lst : PySem.W.subIn K (.ref C) (.type "list") = some false
  int : PySem.W.subIn K (.ref C) (.type "int") = some false
  str : PySem.W.subIn K (.ref C) (.type "str") = some false
variable {mg : Str → Option Value} {x : Str}
theorem ClsX.neM (T : ClsX K mg x C) : NeM K C := ⟨T.ne, T.hm⟩
theorem ClsX.tyOf (T : ClsX K mg x C) {H : Hp} {a dx : Addr} {fs : List (Str × V)} (e : H a = some (.ins C dx fs)) : TyX K H (.ref a) (.ref C) := .base (.ins e T.cl T.ha T.hn T.htk T.hm)
theorem ClsX.me (_ : ClsX K mg x C) : PySem.W.kitOne K (.ref C) (.ref C) = some true := if_pos (beq_self_eq_true _)
theorem ClsX.nfMe (_ : ClsX K mg x C) : PySem.W.notFirst K C (.ref C) = true := by
  show (Value.ref C == Value.ref C || _) = true
  rw [beq_self_eq_true]
  rfl
theorem ClsX.kitB (T : ClsX K mg x C) {t : Value} {b : Bool} (h : PySem.W.subIn K t (.ref C) = some b) (hne : (t == .ref C) = false) : PySem.W.kitOne K t (.ref C) = some b := by
  have e : ((PySem.W.clsIn K C).isSome && PySem.W.typeIn K (.ref C) == some (.type "type")) = true := by
    have h1 : (PySem.W.clsIn K C).isSome = true := T.is
    rw [h1, T.ty]
    rfl
  show (if (t == Value.ref C) = true then some true else if ((PySem.W.clsIn K C).isSome && PySem.W.typeIn K (.ref C) == some (.type "type")) = true then PySem.W.subIn K t (.ref C) else none) = some b
  rw [hne, if_neg Bool.false_ne_true, if_pos e]
  exact h
theorem ClsX.kitK (T : ClsX K mg x C) (k : Knd) : PySem.W.kitOne K (.type k.name) (.ref C) = some false := T.kitB (sub_ty_ref (knd_find k)) rfl
theorem ClsX.nfK (_ : ClsX K mg x C) (k : Knd) : PySem.W.notFirst K C (.type k.name) = true := by
  show (Value.type k.name == Value.ref C || PySem.W.subIn K (.type k.name) (.ref C) == some false) = true
  rw [sub_ty_ref (knd_find k)]
  exact Bool.or_eq_true_iff.mpr (.inr (by decide))
theorem kit_meta {T : String} {b : Bool} (h : PySem.W.subIn K (.ref C) (.type T) = some b) (hm : PySem.W.kitMeta T = true) : PySem.W.kitOne K (.ref C) (.type T) = some b := by
  show (if (Value.ref C == Value.type T) = true then some true else if PySem.W.kitMeta T = true then PySem.W.subIn K (.ref C) (.type T) else none) = some b
  rw [show (Value.ref C == Value.type T) = false from rfl, if_neg Bool.false_ne_true, if_pos hm]
  exact h
theorem ClsX.kTup (T : ClsX K mg x C) : PySem.W.kitOne K (.ref C) (.type "tuple") = some false := kit_meta T.tup (by decide +kernel)
theorem ClsX.kInt (T : ClsX K mg x C) : PySem.W.kitOne K (.ref C) (.type "int") = some false := kit_meta T.int (by decide +kernel)
theorem ClsX.kLst (T : ClsX K mg x C) : PySem.W.kitOne K (.ref C) (.type "list") = some false := kit_meta T.lst (by decide +kernel)
theorem ClsX.kStr (T : ClsX K mg x C) : PySem.W.kitOne K (.ref C) (.type "str") = some false := kit_meta T.str (by decide +kernel)
end
/-! ### an own error's class, from what the top has written -/
section
variable {P : Program} {w : World} {K : PySem.W.Frag} {mg : Str → Option Value} {base : Heap} {x f : Str} {C : Addr}
/-- what k_is finds of the class -/
structure XAt (K : PySem.W.Frag) (mg : Str → Option Value) (x f : Str) (C : Addr) (st : Stmt) (qual : Str) : Prop where
  ox : OexC K C
  gC : mg x = some (.ref C)
  noA : PySem.W.findIn K (.ref C) f = some none
  ec : ExcC K C
  tI : ∃ fI, PySem.W.findIn K (.ref C) "__init__" = some (some (.ref fI)) ∧ PySem.W.typeIn K (.ref fI) = some (.type "function") ∧ ∃ fd, Fun K "__init__" qual st fI fd ∧ Binds K fd ["self", f] []
theorem XAt.cls {st : Stmt} {qual : Str} (T : XAt K mg x f C st qual) (h : ∀ fI fd, Fun K "__init__" qual st fI fd → FnOk P w K mg base CX0 1 fI fd ["self", f] (spXI C f)) : XCls P w K mg base x f C := by
  obtain ⟨fI, i1, i2, fd, F, b⟩ := T.tI
  exact ⟨T.ox, T.gC, T.noA, T.ec, fI, fd, i1, i2, h fI fd F, b⟩
end
/-! ### fields -/
section
theorem lk_put {f g : Str} {v : V} {fs : List (Str × V)} : List.lookup g ((f, v) :: fs) = if (g == f) = true then some v else List.lookup g fs := by
  simp only [List.lookup]
  split
  · rename_i h; rw [h, if_pos rfl]
  · rename_i h; rw [h, if_neg Bool.false_ne_true]
end
end L2

set_option Elab.async false
set_option maxRecDepth 100000
set_option maxHeartbeats 4000000
/-! plain data: lists and tuples of flat values, compared -/
namespace L2
open PySem PySem.Spec PyProof.Rows
def pd : V → PyData
  | .int i => .int i
  | .bl b => .bool b
  | .str s => .str s
  | _ => .none
/-- flat, its text (if it is one) within the model's signs -/
def Fl : V → Prop
  | .int _ => True
  | .bl _ => True
  | .non => True
  | .str s => PySem.PyData.canLay0 (.str s) = true
  | _ => False
section
variable {K : PySem.W.Frag} {H : Hp} {v u : V}
theorem dp_fl (h : Fl v) : Dp K H v (pd v) := by
  cases v <;> first | exact .int _ | exact .bl _ | exact .str _ | exact .non | exact h.elim
theorem dp_all : ∀ {vs : List V}, (∀ v ∈ vs, Fl v) → DpAll K H vs (vs.map pd)
  | [], _ => .nil
  | v :: vs, h => .cons (dp_fl (h v List.mem_cons_self)) (dp_all fun u hu => h u (List.mem_cons_of_mem _ hu))
theorem lay_fl (h : Fl v) : (pd v).canLay0 = true := by
  cases v <;> first | rfl | exact h | exact h.elim
theorem dep_fl : (pd v).depth = 0 := by cases v <;> rfl
theorem lay_all : ∀ {vs : List V}, (∀ v ∈ vs, Fl v) → PyData.canLayAll0 (vs.map pd) = true ∧ PyData.depthAll (vs.map pd) = 0
  | [], _ => ⟨rfl, rfl⟩
  | v :: vs, h => by
    obtain ⟨a, b⟩ := lay_all (vs := vs) fun u hu => h u (List.mem_cons_of_mem _ hu)
    constructor
    · show ((pd v).canLay0 && PyData.canLayAll0 (vs.map pd)) = true
      rw [lay_fl (h v List.mem_cons_self), a]
      rfl
    · show max (pd v).depth (PyData.depthAll (vs.map pd)) = 0
      rw [dep_fl, b]
      rfl
theorem shp_fl (h : Fl v) : SeqAt.shaped (pd v) = true := by
  show ((pd v).canLay0 && decide ((pd v).depth ≤ 64)) = true
  rw [lay_fl h, dep_fl]
  rfl
theorem shp_tup {vs : List V} (h : ∀ v ∈ vs, Fl v) : SeqAt.shaped (.tuple (vs.map pd)) = true := by
  obtain ⟨a, b⟩ := lay_all h
  show (PyData.canLayAll0 (vs.map pd) && decide (PyData.depthAll (vs.map pd) + 1 ≤ 64)) = true
  rw [a, b]
  rfl
theorem shp_lst {vs : List V} (h : ∀ v ∈ vs, Fl v) : SeqAt.shaped (.list (vs.map pd)) = true := by
  obtain ⟨a, b⟩ := lay_all h
  show (PyData.canLayAll0 (vs.map pd) && decide (PyData.depthAll (vs.map pd) + 1 ≤ 64)) = true
  rw [a, b]
  rfl
theorem fl_int (n : Int) : Fl (.int n) := trivial
theorem fl_ints {ns : List Int} : ∀ v ∈ ns.map V.int, Fl v := fun v hv => by
  obtain ⟨n, _, rfl⟩ := List.mem_map.mp hv
  trivial
theorem eqv_ints : ∀ (ns ms : List Int), PyData.eqvAll ((ns.map V.int).map pd) ((ms.map V.int).map pd) = decide (ns = ms)
  | [], [] => rfl
  | [], _ :: _ => rfl
  | _ :: _, [] => rfl
  | n :: ns, m :: ms => by
    show ((n == m) && PyData.eqvAll ((ns.map V.int).map pd) ((ms.map V.int).map pd)) = decide (n :: ns = m :: ms)
    rw [eqv_ints ns ms, Bool.eq_iff_iff]
    simp
/-- the same values are equal data -/
theorem eqv_same : ∀ {vs : List V}, (∀ v ∈ vs, Fl v) → PyData.eqvAll (vs.map pd) (vs.map pd) = true
  | [], _ => rfl
  | v :: vs, h => by
    show (PyData.eqv (pd v) (pd v) && PyData.eqvAll (vs.map pd) (vs.map pd)) = true
    rw [eqv_same (vs := vs) fun u hu => h u (List.mem_cons_of_mem _ hu), Bool.and_true]
    cases v <;> first | rfl | (show (_ == _) = true; exact beq_self_eq_true _)
/-- two tuples compared (op_eqD, op_neD): what is left -/
theorem eqD_tup {p q : Addr} {vs us : List V} {Q : VK} (hp : SqT K H p vs) (hq : SqT K H q us) (fv : ∀ v ∈ vs, Fl v) (fu : ∀ v ∈ us, Fl v) (h : Q (.bl (PyData.eqvAll (vs.map pd) (us.map pd))) H) : rEqD K (.ref p) (.ref q) H Q :=
  ⟨_, _, .tup hp (dp_all fv), .tup hq (dp_all fu), shp_tup fv, shp_tup fu, h⟩
theorem neD_tup {p q : Addr} {vs us : List V} {Q : VK} (hp : SqT K H p vs) (hq : SqT K H q us) (fv : ∀ v ∈ vs, Fl v) (fu : ∀ v ∈ us, Fl v) (h : Q (.bl (!PyData.eqvAll (vs.map pd) (us.map pd))) H) : rNeD K (.ref p) (.ref q) H Q :=
  ⟨_, _, .tup hp (dp_all fv), .tup hq (dp_all fu), shp_tup fv, shp_tup fu, h⟩
theorem eqD_lst {p q : Addr} {vs us : List V} {Q : VK} (hp : SqL K H p vs) (hq : SqL K H q us) (fv : ∀ v ∈ vs, Fl v) (fu : ∀ v ∈ us, Fl v) (h : Q (.bl (PyData.eqvAll (vs.map pd) (us.map pd))) H) : rEqD K (.ref p) (.ref q) H Q :=
  ⟨_, _, .lst hp (dp_all fv), .lst hq (dp_all fu), shp_lst fv, shp_lst fu, h⟩
theorem neD_lst {p q : Addr} {vs us : List V} {Q : VK} (hp : SqL K H p vs) (hq : SqL K H q us) (fv : ∀ v ∈ vs, Fl v) (fu : ∀ v ∈ us, Fl v) (h : Q (.bl (!PyData.eqvAll (vs.map pd) (us.map pd))) H) : rNeD K (.ref p) (.ref q) H Q :=
  ⟨_, _, .lst hp (dp_all fv), .lst hq (dp_all fu), shp_lst fv, shp_lst fu, h⟩
end
end L2

set_option Elab.async false
set_option maxRecDepth 100000
set_option maxHeartbeats 4000000
namespace L2
open PySem PySem.Spec PyProof.Rows
section
variable {X : Cx}
/-- range(j), kept -/
theorem cr_range1 : CallR X (.type "range") (fun vs H Q => ∃ j, vs = [V.int j] ∧ ∀ p, H p = none → Q (.ref p) (upd H p (.rng 0 j))) := by
  intro pins s σ H vs us Q I r h
  obtain ⟨j, rfl, q⟩ := h
  obtain ⟨u1, rfl, rj⟩ := vals1 r
  obtain ⟨t, rfl⟩ := rj
  refine call_range_1 ⟨.ref s.heap.objs.size, upd H s.heap.objs.size (.rng 0 j), I.laid (t' := s.toks + 1 + 1) (fun b o e => Heap.get?_push_of_some _ e) (Nat.le_refl _) ?_, rfl, q _ (I.hok.fresh (Nat.le_refl _))⟩
  exact ⟨s.toks, t, s.toks + 1, Heap.get?_push_size _ rfl⟩
/-- len of a range -/
theorem call_lenR : CallR X (.builtin "len") (fun xs H Q => ∃ a lo hi, xs = [.ref a] ∧ H a = some (.rng lo hi) ∧ (hi - lo).toNat < 2 ^ 62 ∧ Q (.int ((hi - lo).toNat : Int)) H) := by
  intro pins s σ H xs us Q I r h
  obtain ⟨a, lo, hi, rfl, ha, hz, q⟩ := h
  rw [Vals.ref1 r]
  obtain ⟨t, u, v, ho⟩ := I.hok a _ ha
  exact call_len_range (n := (hi - lo).toNat) ho (rangeSize_nat lo hi) (by omega) ⟨.int ((hi - lo).toNat : Int), H, I.tok _, ⟨_, rfl⟩, q⟩
/-- sum of a tuple of ints -/
def rSumT (K : PySem.W.Frag) : List V → Hp → VK → Prop := fun vs H Q => ∃ (a : Addr) (ns : List Int), vs = [V.ref a] ∧ SqT K H a (ns.map V.int) ∧ Q (.int ns.sum) H
theorem cr_sumT (hc : X.calm = true) : CallR X (.builtin "sum") (rSumT X.K) := by
  intro pins s σ H vs us Q I r h
  obtain ⟨a, ns, rfl, hs, q⟩ := h
  obtain ⟨its, rv, hl, _⟩ := I.tuple hs
  rw [Vals.ref1 r]
  have hi := rv.ints
  obtain ⟨xs, e⟩ := hi.allInts.items
  have hn : numsOf (intItems xs).toList = ns := by rw [← e]; exact hi.numsOf
  rw [nums_intItems] at hn
  rw [e] at hl
  refine PySem.W.ktm_sumG (I.ok.hd hc) hl fun h' tk t' hk => ?_
  rw [preSum_eq, List.take_of_length_le (by simp), hn]
  exact ⟨.int ns.sum, H, I.kept hk, ⟨_, rfl⟩, q⟩
end
end L2

set_option Elab.async false
set_option maxRecDepth 100000
set_option maxHeartbeats 4000000
namespace L2
open PySem PySem.Spec PyProof.Rows
/-- a list or tuple at p of the items xs -/
def Sq (H : Hp) (p : Addr) (xs : List V) : Prop := H p = some (.lst xs) ∨ H p = some (.tup xs)
section
variable {K : PySem.W.Frag} {H H' : Hp} {p : Addr} {xs : List V}
theorem Sq.k (h : Sq H p xs) : ∃ k, KndOf H (.ref p) k ∧ k.isSeq = true := by
  rcases h with h | h
  · exact ⟨.list, ⟨p, xs, rfl, h⟩, rfl⟩
  · exact ⟨.tuple, ⟨p, xs, rfl, h⟩, rfl⟩
theorem Sq.ext (h : Sq H p xs) (e : Ext H H') : Sq H' p xs := h.imp (e _ _) (e _ _)
theorem Sq.l (h : Sq H p xs) : SqL K H p xs ∨ SqT K H p xs := h.imp SqL.of SqT.of
theorem ext_mut {D : Addr} {o : HO} (e : Ext H H') (h : H D = none) : Ext H (upd H' D o) := fun a u ha => by
  rw [upd_ne (ne_of_none ha h)]
  exact e a u ha
theorem ext_none {D : Addr} (e : Ext H H') (h : H' D = none) : H D = none := by
  cases h1 : H D with
  | none => rfl
  | some o =>
    rw [e D o h1] at h
    cases h
end
section
variable {X : Cx} {tg : Expr}
/-- a list or a tuple is walked -/
def iSq (K : PySem.W.Frag) (tl : TE) : TI := fun σ H R => tl σ H fun x H1 => ∃ a, x = .ref a ∧ (((∃ xs, SqL K H1 a xs) ∧ R (Itl K a) H1) ∨ ((∃ xs, SqT K H1 a xs) ∧ R (Itt K a) H1))
theorem pi_sq {l : Expr} {tl : TE} (hl : PE X l tl) : PI X tg l (iSq X.K tl) := by
  refine ⟨fun pins s σ H R I h => ?_⟩
  refine thn (hl.run pins s σ H _ I h) fun v s1 ⟨x, H1, I1, r1, q1⟩ => ?_
  obtain ⟨a, e, q1⟩ := q1
  subst e
  cases r1
  rcases q1 with ⟨⟨xs, hq⟩, q⟩ | ⟨⟨xs, hq⟩, q⟩
  · obtain ⟨its, rv, p, hz⟩ := I1.list hq
    refine wpAny_pyIter_list p.isList ?_
    refine ⟨s1.heap.objs.size, [s1.heap.objs.size], _, _, H1, rfl, I1.kept (t' := s1.toks) fun b o e => Heap.get?_push_of_some _ e, turn_list a _, ⟨_, Heap.get?_push_size _ rfl, rfl, rfl⟩, fun b hb => ?_, q⟩
    have e : b = s1.heap.objs.size := by simpa using hb
    subst e
    exact I1.fpOk (Nat.le_refl _) (I1.hok.fresh (Nat.le_refl _))
  · obtain ⟨its, rv, p, hz⟩ := I1.tuple hq
    refine wpAny_pyIter_tuple (show s1.heap.IsTuple a its.toArray from p) ?_
    refine ⟨s1.heap.objs.size, [s1.heap.objs.size], _, _, H1, rfl, I1.kept (t' := s1.toks) fun b o e => Heap.get?_push_of_some _ e, turn_tuple a _, ⟨_, Heap.get?_push_size _ rfl, rfl, rfl⟩, fun b hb => ?_, q⟩
    have e : b = s1.heap.objs.size := by simpa using hb
    subst e
    exact I1.fpOk (Nat.le_refl _) (I1.hok.fresh (Nat.le_refl _))
end
section
variable {K : PySem.W.Frag} {σ : St} {H : Hp} {p : Addr} {xs : List V} {te : TE} {tt : TT} {j : Nat} {vs : List Nat} {Q : VK}
theorem take_snoc {α : Type} {l : List α} {i : Nat} {x : α} (h : l[i]? = some x) : l.take (i + 1) = l.take i ++ [x] := by
  rw [List.take_add_one, h]
  rfl
/-- [f(x) for x in xs if b(x)], what is tested and made only adding to the heap: the reading behind the source's own -/
theorem lc_sqR {Qd : Addr → Hp → Prop} {f : V → V} {b : V → Bool} (hx : Sq H p xs) (hz : xs.length < sizeLine) (hw : ∀ x, wipe ((wipe σ vs).set j (some x)) vs = wipe σ vs)
    (ht : ∀ x ∈ xs, ∀ H', Ext H H' → ∀ Q : Bool → Hp → Prop, (∀ H'', Ext H' H'' → Q (b x) H'') → tt ((wipe σ vs).set j (some x)) H' Q)
    (he : ∀ x ∈ xs, b x = true → ∀ H', Ext H H' → ∀ Q : VK, (∀ H'', Ext H' H'' → Q (f x) H'') → te ((wipe σ vs).set j (some x)) H' Q)
    (q : ∀ D H', H D = none → Ext H H' → H' D = some (.lst ((xs.filter b).map f)) → Qd D H') :
    ((∃ xs, SqL K H p xs) ∧ (fun J H1 => ∀ D, H1 D = none → ∃ W : Nat → Nat → Hp → Prop, (∃ m, W 0 m (upd H1 D (.lst []))) ∧ ∀ i m H, W i m H →
      (J.stop i H ∧ Qd D H) ∨ (J.go i H ∧ ∃ Nx : Hp → Prop, (∀ H', Nx H' → ∃ m', m' < m ∧ W (i + 1) m' H') ∧ ∀ x H', J.yld i H x H' → gName j x (wipe σ vs) H' fun σ2 H2 => wipe σ2 vs = wipe σ vs ∧ tt σ2 H2 fun b H3 =>
        if b = true then te σ2 H3 fun y H4 => ∃ acc, H4 D = some (.lst acc) ∧ acc.length < sizeLine ∧ Nx (upd H4 D (.lst (acc ++ [y]))) else Nx H3)) (Itl K p) H) ∨
    ((∃ xs, SqT K H p xs) ∧ (fun J H1 => ∀ D, H1 D = none → ∃ W : Nat → Nat → Hp → Prop, (∃ m, W 0 m (upd H1 D (.lst []))) ∧ ∀ i m H, W i m H →
      (J.stop i H ∧ Qd D H) ∨ (J.go i H ∧ ∃ Nx : Hp → Prop, (∀ H', Nx H' → ∃ m', m' < m ∧ W (i + 1) m' H') ∧ ∀ x H', J.yld i H x H' → gName j x (wipe σ vs) H' fun σ2 H2 => wipe σ2 vs = wipe σ vs ∧ tt σ2 H2 fun b H3 =>
        if b = true then te σ2 H3 fun y H4 => ∃ acc, H4 D = some (.lst acc) ∧ acc.length < sizeLine ∧ Nx (upd H4 D (.lst (acc ++ [y]))) else Nx H3)) (Itt K p) H) := by
  have turn : ∀ (D : Addr), H D = none → ∀ i x H', xs[i]? = some x → (Ext H H' ∧ H' D = some (.lst (((xs.take i).filter b).map f))) → gName j x (wipe σ vs) H' fun σ2 H2 => wipe σ2 vs = wipe σ vs ∧ tt σ2 H2 fun b' H3 =>
      if b' = true then te σ2 H3 fun y H4 => ∃ acc, H4 D = some (.lst acc) ∧ acc.length < sizeLine ∧ (Ext H (upd H4 D (.lst (acc ++ [y]))) ∧ upd H4 D (.lst (acc ++ [y])) D = some (.lst (((xs.take (i + 1)).filter b).map f))) else (Ext H H3 ∧ H3 D = some (.lst (((xs.take (i + 1)).filter b).map f))) := by
    intro D hD i x H' hi pv
    obtain ⟨e, hl⟩ := pv
    have hm : x ∈ xs := List.mem_of_getElem? hi
    refine ⟨hw x, ht x hm H' e _ fun H3 e3 => ?_⟩
    have hl3 : H3 D = some (.lst (((xs.take i).filter b).map f)) := e3 _ _ hl
    cases hb : b x with
    | true =>
      refine iteT (he x hm hb H3 (e.trans e3) _ fun H4 e4 => ⟨_, e4 _ _ hl3, ?_, ext_mut ((e.trans e3).trans e4) hD, ?_⟩)
      · rw [List.length_map]
        refine Nat.lt_of_le_of_lt (Nat.le_trans (List.length_filter_le _ _) ?_) hz
        exact List.length_take_le' _ _
      · rw [upd_same, take_snoc hi, List.filter_append, List.map_append]
        simp [hb]
    | false =>
      refine iteF ⟨e.trans e3, ?_⟩
      rw [hl3, take_snoc hi, List.filter_append, List.map_append]
      simp [hb]
  have fin : ∀ D, H D = none → ∀ H', (Ext H H' ∧ H' D = some (.lst (((xs.take xs.length).filter b).map f))) → Qd D H' := fun D hD H' pv => by
    rw [List.take_length] at pv
    exact q D H' hD pv.1 pv.2
  rcases hx with hx | hx
  · refine .inl ⟨⟨xs, SqL.of hx⟩, fun D hD => lc_list (xs := xs) (fun i H' => Ext H H' ∧ H' D = some (.lst (((xs.take i).filter b).map f))) ⟨Ext.upd hD, upd_same⟩ (fun i H' _ pv => SqL.of (pv.1 _ _ hx)) (fun i x H' hi pv => turn D hD i x H' hi pv) (fun H' pv => fin D hD H' pv)⟩
  · refine .inr ⟨⟨xs, SqT.of hx⟩, fun D hD => lc_tup (xs := xs) (fun i H' => Ext H H' ∧ H' D = some (.lst (((xs.take i).filter b).map f))) ⟨Ext.upd hD, upd_same⟩ (fun i H' _ pv => SqT.of (pv.1 _ _ hx)) (fun i x H' hi pv => turn D hD i x H' hi pv) (fun H' pv => fin D hD H' pv)⟩
end
theorem filter_all {α : Type} (l : List α) : l.filter (fun _ => true) = l := List.filter_eq_self.mpr fun _ _ => rfl
end L2

set_option Elab.async false
set_option maxRecDepth 100000
set_option maxHeartbeats 4000000
/-! enumerate over a list or a tuple -/
namespace PySem
open Sem (wp)
/-- the maker of enumerate, handed one thing whose iterator is told -/
theorem en1_meets {v : Value} {ob : Obj} {HP : Heap → Prop} (BG : Begins v ob HP) :
    Meets (Builtin.«enumerate.__new__» ⟨[.type "enumerate", v], []⟩) (fun _ RR sh => HP sh.heap ∧
      RR (.ok (.ret (.ref (sh.heap.push ob).objs.size)))
        { sh with heap := (sh.heap.push ob).push { cls := .type "enumerate", data := .fields #[.none, .bool false, .ref sh.heap.objs.size, rawInt 0, .none, .none] } }) :=
  .of_wp fun pr ww AA RR sh hh => by
    obtain ⟨hp, gg, dd, tk, os⟩ := sh
    obtain ⟨hh1, hh⟩ := hh
    have sub1 := sub_enumerate
    have begin1 : ∀ {A1 : Around} {E1 Q1 : Value → Shared → Prop}, Q1 (.ref hp.objs.size) ⟨hp.push ob, gg, dd, tk, os⟩ →
        wpAny (model pr ww) A1 (pyIter v) Q1 E1 ⟨hp, gg, dd, tk, os⟩ :=
      fun qq => BG.iter pr ww _ _ ⟨hp, gg, dd, tk, os⟩ _ hh1 qq
    wp_walk using begin1
    refine wpAny_stack_any fun sta => wpAny_pure ?_
    split
    · rename_i cc _ _ _ _ _
      cases (cc == Value.type "enumerate")
      all_goals
        wp_walk using begin1
        exact ⟨_, rfl, hh⟩
    · wp_walk using begin1
      exact ⟨_, rfl, hh⟩
section
variable {pr : Program} {ww : World} {AA : Around} {EE : Value → Shared → Prop} {sh : Shared}
theorem en1_call {v : Value} {ob : Obj} {HP : Heap → Prop} {QQ : Value → Shared → Prop} (BG : Begins v ob HP) (hh : HP sh.heap)
    (kk : ∀ h1, IsEnum h1 (sh.heap.objs.size + 1) sh.heap.objs.size 0 .none → h1.get? sh.heap.objs.size = some ob →
      (∀ x y, sh.heap.get? x = some y → h1.get? x = some y) → QQ (.ref (sh.heap.objs.size + 1)) { sh with heap := h1 }) :
    wpAny (model pr ww) AA (call (.type "enumerate") [v]) QQ EE sh := by
  refine callType_new F.called_enumerate (by decide) (F.typeCall_enumerate_1 _) (F.newCall_enumerate_1 _) (fun oo => F.args_object_init_2 oo _) F.entry_enumerate_new (en1_meets BG) ⟨hh, ?_⟩
  have sz : (sh.heap.push ob).objs.size = sh.heap.objs.size + 1 := Heap.size_push ..
  show _ ∧ _
  rw [sz]
  have en : IsEnum ((sh.heap.push ob).push { cls := .type "enumerate", data := .fields #[.none, .bool false, .ref sh.heap.objs.size, rawInt 0, .none, .none] })
      (sh.heap.objs.size + 1) sh.heap.objs.size 0 .none := by
    have qq := Heap.get?_push_size (sh.heap.push ob) (o := { cls := .type "enumerate", data := .fields #[.none, .bool false, .ref sh.heap.objs.size, rawInt 0, .none, .none] }) rfl
    rw [sz] at qq
    exact qq
  exact ⟨⟨_, en, rfl⟩, kk _ en (Heap.get?_push_of_some _ (Heap.get?_push_size _ BG.free)) fun x y hx => Heap.get?_push_of_some _ (Heap.get?_push_of_some _ hx)⟩
end
end PySem
namespace L2
open PySem PySem.Spec PyProof.Rows
/-- the tuple at a, each item in a new pair with its place -/
def Itet (K : PySem.W.Frag) (a : Addr) : It :=
  ⟨fun i H => ∃ xs : List V, SqT K H a xs ∧ i < xs.length,
    fun i H v H' => ∃ T x, v = .ref T ∧ H T = none ∧ H' = upd H T (.tup [.int (i : Nat), x]) ∧ ∀ xs, SqT K H a xs → xs[i]? = some x,
    fun i H => ∃ xs : List V, SqT K H a xs ∧ xs.length = i⟩
theorem turn_enT {P : Program} {w : World} {K : PySem.W.Frag} {elts : List Expr} {kk : Nat} {tpos : Pos} (a e it : Addr) (hea : e ≠ a) (hia : a ≠ it) :
    Turn P w K (.Tuple elts kk tpos) (Itet K a) [e, it] e (fun i h => (∃ old, IsEnum h e it ((i : Nat) : Int) old) ∧ h.IsTupleIter it a i ∧ e ≠ it) where
  mem := List.mem_cons_self
  obj := fun i h st b hb => by
    obtain ⟨⟨old, he⟩, ⟨o, ho, _, hd⟩, _⟩ := st
    rcases List.mem_cons.mp hb with z | z
    · subst z
      exact ⟨_, he, fun v q => nomatch q⟩
    · have z' := List.mem_singleton.mp z
      subst z'
      exact ⟨o, ho, fun v q => by rw [hd] at q; cases q⟩
  keep := fun i h h' st k => by
    obtain ⟨⟨old, he⟩, hi, hne⟩ := st
    exact ⟨⟨old, k e List.mem_cons_self _ he⟩, hi.at fun o q => k it (List.mem_cons_of_mem _ (List.mem_singleton.mpr rfl)) o q, hne⟩
  item := by
    intro X hP hw hK hc i pins s σ H E I hf st hg
    subst hP hw hK
    obtain ⟨⟨old, he⟩, hit, hne⟩ := st
    obtain ⟨xs, hq, hx⟩ := hg
    obtain ⟨its, rv, p, hz⟩ := I.tuple hq
    have hl := rv.length
    have hel : e < s.heap.objs.size := Heap.lt_size he
    have hil : it < s.heap.objs.size := by
      obtain ⟨_, q, _⟩ := hit
      exact Heap.lt_size q
    have D := Draws.tuple (prog := X.prog) (w := X.w) (A := X.A.in1) (show X.A.in1.handled = none from I.ok.hd hc) it a hia its.toArray
    refine wpAny_pyNext_enum_itemC D he (i := i) ⟨hit, p⟩ (by simp; omega) hne (by simp [hne, hea]) fun u h' tk hP ho hst' hT hsz hk => ?_
    have hu : its[i]? = some u := by simpa using hP
    obtain ⟨x, hxx⟩ : ∃ x, xs[i]? = some x := ⟨_, List.getElem?_eq_getElem hx⟩
    obtain ⟨u', hu', ru'⟩ := rv.get hxx
    have eu : u' = u := Option.some.inj (hu'.symm.trans hu)
    subst eu
    refine ⟨_, rfl, wpAny_letOwnedTupleGo_enum (s := { s with heap := h', toks := tk + 1 }) ho fun h2 he2 sb => ?_⟩
    have hT2 : h2.get? s.heap.objs.size = some { cls := .type "tuple", data := .seq #[.int i tk, u'] } := (sb.2 _ (Nat.ne_of_gt hel)).trans hT
    have new : ObjOk X.prog X.w (upd H s.heap.objs.size (.tup [.int (i : Nat), x])) h2 s.heap.objs.size (.tup [.int (i : Nat), x]) := by
      refine ⟨?_, [.int i tk, u'], .cons ⟨_, rfl⟩ (.cons ru' .nil), ⟨_, hT2, rfl, _, rfl⟩⟩
      show 2 ≤ sizeLine
      decide
    have I1 : Inv X pins σ (upd H s.heap.objs.size (.tup [.int (i : Nat), x])) { s with heap := h2, toks := tk + 1 } := by
      refine I.turnedNew (ch := [e, it]) (fun b ob hb q => ?_) hf (Nat.le_refl _) new
      have b1 : b ≠ e := fun z => hb (by simp [z])
      have b2 : b ≠ it := fun z => hb (by simp [z])
      exact (sb.2 b b1).trans (hk b ob b1 b2 q)
    refine ⟨.ref s.heap.objs.size, _, I1, rfl, ⟨_, x, rfl, I.hok.fresh (Nat.le_refl _), rfl, fun ys hy => ?_⟩, ⟨⟨u', ?_⟩, hst'.1.at fun o q => (sb.2 it (Ne.symm hne)).trans q, hne⟩, fun b hb => ?_⟩
    · obtain ⟨its2, rv2, p2, _⟩ := I.tuple hy
      rw [I.tuple_inj hy hq]
      exact hxx
    · have e1 : ((i + 1 : Nat) : Int) = (i : Int) + 1 := rfl
      rw [e1]
      exact he2
    · have hb' : b < s.heap.objs.size := by
        rcases List.mem_cons.mp hb with z | z
        · rw [z]
          exact hel
        · rw [List.mem_singleton.mp z]
          exact hil
      rw [upd_ne (Nat.ne_of_lt hb')]
      exact (hf b hb).1
  done := by
    intro X hP hw hK hc i pins s σ H E I hf st hg
    subst hP hw hK
    obtain ⟨⟨old, he⟩, hit, hne⟩ := st
    obtain ⟨xs, hq, hx⟩ := hg
    obtain ⟨its, rv, p, hz⟩ := I.tuple hq
    have hl := rv.length
    obtain ⟨f0, f1, f2, f3, f4, f5⟩ := hf it (List.mem_cons_of_mem _ (List.mem_singleton.mpr rfl))
    have D := Draws.tuple (prog := X.prog) (w := X.w) (A := X.A.in1) (show X.A.in1.handled = none from I.ok.hd hc) it a hia its.toArray
    have ei : i = its.toArray.size := by simp; omega
    refine wpAny_pyNext_enum_endD D he (by rw [← ei]; exact ⟨hit, p⟩) fun h' eb => ⟨rfl, ?_⟩
    exact I.turned (t' := s.toks) (fun b o hb q => eb b o hb q) f0 f1 f3 f4 f5
  self := fun A i s Q E st h => by
    obtain ⟨⟨_, he⟩, _⟩ := st
    exact wpAny_pyIter_enum he h
/-- a list or a tuple is walked with the places -/
def iEnSq (K : PySem.W.Frag) (ta : TA) : TI := fun σ H R => ta σ H fun vs H1 => ∃ a, vs = [.ref a] ∧ (((∃ xs, SqL K H1 a xs) ∧ R (Ite K a) H1) ∨ ((∃ xs, SqT K H1 a xs) ∧ R (Itet K a) H1))
theorem pi_enSq {X : Cx} {e : Expr} {ta : TA} {p pos tpos : Pos} {elts : List Expr} {kk : Nat} (hg : Gl X "enumerate") (hm : X.mg "enumerate" = none) (ha : PA X [e] ta) (hs : starEach [e] X.env = [(false, eval e X.env)] := by rfl) :
    PI X (.Tuple elts kk tpos) (.Call (.Name "enumerate" p) [e] [] pos) (iEnSq X.K ta) := by
  refine ⟨fun pins s σ H R I h => ?_⟩
  refine Call_ (ld_blt I hg hm boot_enumerate (PyProof.Rows.callWith_type1 (thn (ha.run pos pins s σ H _ I h) fun us s1 ⟨vs, H1, I1, r1, q1⟩ => ?_) hs rfl))
  obtain ⟨a, ex, q1⟩ := q1
  subst ex
  obtain rfl := Vals.ref1 r1
  have two : ∀ b, b ∈ [s1.heap.objs.size + 1, s1.heap.objs.size] → s1.heap.objs.size ≤ b := fun b hb => by
    rcases List.mem_cons.mp hb with z | z
    · rw [z]
      exact Nat.le_add_right _ _
    · rw [List.mem_singleton.mp z]
      exact Nat.le_refl _
  rcases q1 with ⟨⟨xs, hq⟩, q⟩ | ⟨⟨xs, hq⟩, q⟩
  · obtain ⟨its, rv, p', hz⟩ := I1.list hq
    refine en1_call (begins_list a its.toArray) p'.isList fun h' he hit hk => wpAny_pyIter_enum he ?_
    have I2 : Inv X pins σ H1 { s1 with heap := h' } := I1.kept (t' := s1.toks) hk
    refine ⟨s1.heap.objs.size + 1, [s1.heap.objs.size + 1, s1.heap.objs.size], _, _, H1, rfl, I2, turn_enum a (s1.heap.objs.size + 1) s1.heap.objs.size, ⟨⟨.none, he⟩, ⟨_, hit, rfl, rfl⟩, Nat.succ_ne_self _⟩, fun b hb => ?_, q⟩
    exact I1.fpOk (two b hb) (I1.hok.fresh (two b hb))
  · obtain ⟨its, rv, p', hz⟩ := I1.tuple hq
    have hlt : a < s1.heap.objs.size := by
      obtain ⟨o, ho, _⟩ := (show s1.heap.IsTuple a its.toArray from p')
      exact Heap.lt_size ho
    refine en1_call (begins_tuple a its.toArray) p' fun h' he hit hk => wpAny_pyIter_enum he ?_
    have I2 : Inv X pins σ H1 { s1 with heap := h' } := I1.kept (t' := s1.toks) hk
    refine ⟨s1.heap.objs.size + 1, [s1.heap.objs.size + 1, s1.heap.objs.size], _, _, H1, rfl, I2, turn_enT a (s1.heap.objs.size + 1) s1.heap.objs.size (Nat.ne_of_gt (Nat.lt_succ_of_lt hlt)) (Nat.ne_of_lt hlt), ⟨⟨.none, he⟩, ⟨_, hit, rfl, rfl⟩, Nat.succ_ne_self _⟩, fun b hb => ?_, q⟩
    exact I1.fpOk (two b hb) (I1.hok.fresh (two b hb))
section
variable {K : PySem.W.Frag} {a : Addr} {xs : List V}
theorem walk_enT : Walk (Itet K a) xs.length (fun H => SqT K H a xs) (YPair (fun i => some (.int (i : Nat))) (fun i => xs[i]?)) := by
  refine ⟨fun i _ hi q => ⟨xs, q, hi⟩, fun _ q => ⟨xs, q, rfl⟩, fun i H v H' _ q y => ?_⟩
  obtain ⟨T, x, e1, e2, e3, e4⟩ := y
  exact ⟨T, .int (i : Nat), x, e1, e2, e3, rfl, e4 xs q⟩
/-- the turns of an end: what goes on is N -/
def turnsOf (g : TG) (tb : TS) (D : Ends) (σ : St) (J : It) (H : Hp) : Prop := ∃ W : Nat → Nat → St → Hp → Prop, (∃ m, W 0 m σ H) ∧ ∀ i m σ H, W i m σ H →
  (J.stop i H ∧ D.nx σ H) ∨ (J.go i H ∧ ∃ N : St → Hp → Prop, (∀ σ' H', N σ' H' → ∃ m', m' < m ∧ W (i + 1) m' σ' H') ∧ ∀ x H', J.yld i H x H' → g x σ H' fun σ2 H2 => tb { D with nx := N, ct := N, bk := D.nx } σ2 H2)
theorem for_enSq {g : TG} {tb : TS} {D : Ends} {σ : St} {H : Hp} (hx : SqL K H a xs ∨ SqT K H a xs) (Pv : Nat → St → Hp → Prop) (h0 : Pv 0 σ H) (hE : ∀ i σ' H', Pv i σ' H' → Ext H H')
    (hs : ∀ i x σ' H' T, xs[i]? = some x → Pv i σ' H' → H' T = none → g (.ref T) σ' (upd H' T (.tup [.int (i : Nat), x])) fun σ2 H2 => tb { D with nx := Pv (i + 1), ct := Pv (i + 1), bk := D.nx } σ2 H2) (hd : ∀ σ' H', Pv xs.length σ' H' → D.nx σ' H') :
    ((∃ xs, SqL K H a xs) ∧ turnsOf g tb D σ (Ite K a) H) ∨ ((∃ xs, SqT K H a xs) ∧ turnsOf g tb D σ (Itet K a) H) := by
  have step : ∀ i x σ' H' H'', i < xs.length → Pv i σ' H' → YPair (fun i => some (V.int (i : Nat))) (fun i => xs[i]?) i H' x H'' → g x σ' H'' fun σ2 H2 => tb { D with nx := Pv (i + 1), ct := Pv (i + 1), bk := D.nx } σ2 H2 := by
    rintro i v σ' H' H'' hi pv ⟨T, x, y, rfl, hT, rfl, hx', hy⟩
    cases hx'
    exact hs i y σ' H' T hy pv hT
  rcases hx with hx | hx
  · exact .inl ⟨⟨xs, hx⟩, for_it (walk_enum (xs := xs)) Pv h0 (fun i σ' H' _ pv => hx.ext (hE i σ' H' pv)) step hd⟩
  · exact .inr ⟨⟨xs, hx⟩, for_it (walk_enT (xs := xs)) Pv h0 (fun i σ' H' _ pv => hx.ext (hE i σ' H' pv)) step hd⟩
end
end L2

set_option Elab.async false
set_option maxRecDepth 100000
set_option maxHeartbeats 4000000
/-! values told by the data that they hold -/
namespace L2
open PySem PySem.Spec PyProof.Rows
/-- the type's name -/
def tnD : PyData → String
  | .none => "NoneType" | .bool _ => "bool" | .int _ => "int" | .str _ => "str" | .list _ => "list" | .tuple _ => "tuple" | .dict _ => "dict"
def isIntD : PyData → Bool | .int _ => true | .bool _ => true | _ => false
def isBoolD : PyData → Bool | .bool _ => true | _ => false
def isTupD : PyData → Bool | .tuple _ => true | _ => false
def isListD : PyData → Bool | .list _ => true | _ => false
def isStrD : PyData → Bool | .str _ => true | _ => false
def isSeqD : PyData → Bool | .list _ => true | .tuple _ => true | _ => false
def isNoneD : PyData → Bool | .none => true | _ => false
/-- the int that it is, no truth -/
def betD (d : PyData) (a b : Int) : Bool := match d with
  | .int n => decide (a ≤ n) && decide (n ≤ b)
  | _ => false
def lenD : PyData → Nat | .list ds => ds.length | .tuple ds => ds.length | _ => 0
section
variable {K : PySem.W.Frag} {H H' : Hp} {v : V} {d : PyData}
theorem dp_ty (h : Dp K H v d) : TyX K H v (.type (tnD d)) := by
  cases h with
  | non => exact .base .non
  | bl b => exact .base (.bl b)
  | int i => exact .base (.int i)
  | str s => exact .base (.str s)
  | lst hs _ =>
    rcases hs with (h | ⟨o, h⟩) | ⟨o, its, n, e, c, _⟩
    · exact .base (.lst h)
    · exact .base (.frz h)
    · exact .kList e c
  | tup hs _ =>
    rcases hs with (h | ⟨o, h⟩) | ⟨o, its, n, e, c, _⟩
    · exact .base (.tup h)
    · exact .fTuple h
    · exact .kTuple e c
theorem kd_int : PySem.W.kitOne K (.type (tnD d)) (.type "int") = some (isIntD d) := by cases d <;> exact kit_ty (by dsimp only [tnD, isIntD]; decide +kernel)
theorem kd_bool : PySem.W.kitOne K (.type (tnD d)) (.type "bool") = some (isBoolD d) := by cases d <;> exact kit_ty (by dsimp only [tnD, isBoolD]; decide +kernel)
theorem kd_tup : PySem.W.kitOne K (.type (tnD d)) (.type "tuple") = some (isTupD d) := by cases d <;> exact kit_ty (by dsimp only [tnD, isTupD]; decide +kernel)
theorem kd_list : PySem.W.kitOne K (.type (tnD d)) (.type "list") = some (isListD d) := by cases d <;> exact kit_ty (by dsimp only [tnD, isListD]; decide +kernel)
theorem kd_seq : PySem.W.kitAny K (.type (tnD d)) [.type "list", .type "tuple"] = some (isSeqD d) := by
  unfold PySem.W.kitAny
  rw [kd_list]
  unfold PySem.W.kitAny
  rw [kd_tup]
  cases d <;> rfl
theorem kd_find : (fastFind? (tnD d)).isSome = true := by cases d <;> (dsimp only [tnD]; decide +kernel)
mutual
theorem dp_ext (e : Ext H H') : ∀ (d : PyData) (v : V), Dp K H v d → Dp K H' v d
  | .none, _, h => by cases h; exact .non
  | .bool _, _, h => by cases h; exact .bl _
  | .int _, _, h => by cases h; exact .int _
  | .str _, _, h => by cases h; exact .str _
  | .list ds, _, h => by
    cases h with
    | lst hs ha => exact .lst (hs.ext e) (dps_ext e ds _ ha)
  | .tuple ds, _, h => by
    cases h with
    | tup hs ha => exact .tup (hs.ext e) (dps_ext e ds _ ha)
  | .dict _, _, h => by cases h
theorem dps_ext (e : Ext H H') : ∀ (ds : List PyData) (vs : List V), DpAll K H vs ds → DpAll K H' vs ds
  | [], _, h => by cases h; exact .nil
  | d :: ds, _, h => by
    cases h with
    | cons h1 h2 => exact .cons (dp_ext e d _ h1) (dps_ext e ds _ h2)
end
theorem dps_len : ∀ {vs : List V} {ds : List PyData}, DpAll K H vs ds → vs.length = ds.length
  | [], _, h => by cases h; rfl
  | v :: vs, _, h => by
    cases h with
    | cons _ h2 => exact congrArg Nat.succ (dps_len h2)
theorem dps_get : ∀ {vs : List V} {ds : List PyData} {i : Nat} {v : V}, DpAll K H vs ds → vs[i]? = some v → ∃ d, ds[i]? = some d ∧ Dp K H v d
  | [], _, _, _, _, e => by cases e
  | v :: vs, _, i, _, h, e => by
    cases h with
    | @cons _ _ d ds h1 h2 =>
      cases i with
      | zero => cases e; exact ⟨d, rfl, h1⟩
      | succ i => exact dps_get (i := i) h2 e
theorem bet_int {n a b : Int} : betD (.int n) a b = (decide (a ≤ n) && decide (n ≤ b)) := rfl
theorem bet_not {a b : Int} (h : (isIntD d && !isBoolD d) = false) : betD d a b = false := by cases d <;> first | rfl | cases h
theorem bet_yes {a b : Int} (h : betD d a b = true) : ∃ n, d = .int n ∧ a ≤ n ∧ n ≤ b := by
  cases d <;> first | (rw [bet_int, Bool.and_eq_true, decide_eq_true_eq, decide_eq_true_eq] at h; exact ⟨_, rfl, h.1, h.2⟩) | cases h
theorem int_yes (h : (isIntD d && !isBoolD d) = true) : ∃ n, d = .int n := by cases d <;> first | exact ⟨_, rfl⟩ | cases h
theorem dp_int {n : Int} (h : Dp K H v (.int n)) : v = .int n := by cases h; rfl
theorem dp_seq (h : Dp K H v d) (hs : isSeqD d = true) : ∃ (a : Addr) (xs : List V) (ds : List PyData), v = .ref a ∧ (SqL K H a xs ∨ SqT K H a xs) ∧ DpAll K H xs ds ∧ (d = .list ds ∨ d = .tuple ds) := by
  cases h with
  | lst h ha => exact ⟨_, _, _, rfl, .inl h, ha, .inl rfl⟩
  | tup h ha => exact ⟨_, _, _, rfl, .inr h, ha, .inr rfl⟩
  | _ => cases hs
theorem dp_tup (h : Dp K H v d) (hs : isTupD d = true) : ∃ (a : Addr) (xs : List V) (ds : List PyData), v = .ref a ∧ SqT K H a xs ∧ DpAll K H xs ds ∧ d = .tuple ds := by
  cases h with
  | tup h ha => exact ⟨_, _, _, rfl, h, ha, rfl⟩
  | _ => cases hs
end
/-! ### own methods, called -/
section
variable {X : Cx} {CX : CXT} {m : Str} {k : Nat} {ps : List Str} {sp : Sp} {e o : Expr} {es : List Expr} {t : TA} {ta : TE} {pos apos : Pos} {C : Addr}
theorem pe_ownM0 {pl : Sem Bool} (O : OwnM X.prog X.w X.K X.mg X.base CX C m k ps sp) (he : PE X o ta) (c : Cls X.K C) (hr : Room k X.A) (hx : Passes CX X E0)
    (ht : eval (.Call (.Attribute o m apos) [] [] pos) X.env = (do
      let ov ← eval o X.env
      standAt apos.atName
      let (f, first) ← holding [ov] (getMethod ov m pl)
      callWith pos f first (backTo pos (starEach [] X.env)) (backToKw pos (keywordEach [] X.env))) := by rfl) :
    PE X (.Call (.Attribute o m apos) [] [] pos) (tMeth C m sp [] E0 ta tNil) := by
  obtain ⟨f, fd, F, M, _, hb⟩ := O.ex
  exact pe_meth0 he c M F hr hb .nil hx ht
theorem pe_ownM {pl : Sem Bool} (O : OwnM X.prog X.w X.K X.mg X.base CX C m k ps sp) (he : PE X o ta) (c : Cls X.K C) (hr : Room k X.A) (hx : Passes CX X E0) (ha : PA X (e :: es) t)
    (hst : starEach (e :: es) X.env = (false, eval e X.env) :: starEach es X.env := by rfl) (hpl : (backTo pos (starEach es X.env)).any (·.1) = false := by rfl)
    (ht : eval (.Call (.Attribute o m apos) (e :: es) [] pos) X.env = (do
      let ov ← eval o X.env
      standAt apos.atName
      let (f, first) ← holding [ov] (getMethod ov m pl)
      callWith pos f first (backTo pos (starEach (e :: es) X.env)) (backToKw pos (keywordEach [] X.env))) := by rfl) :
    PE X (.Call (.Attribute o m apos) (e :: es) [] pos) (tMeth C m sp [] E0 ta t) := by
  obtain ⟨f, fd, F, M, _, hb⟩ := O.ex
  exact pe_meth he c M F hr hb .nil hx ha hst hpl ht
end
end L2

set_option Elab.async false
set_option maxRecDepth 100000
set_option maxHeartbeats 4000000
/-! defs that are handed the error that the suite holds; classes made with defaults -/
namespace L2
open PySem PySem.Spec PyProof.Rows
section
variable {X : Cx}
/-- isinstance(e, c), e the held error, anywhere that it is pinned -/
theorem call_isEP {a D : Addr} {cls : Value} {d : Option Addr} {oe : Obj} (hpn : (a, oe) ∈ X.pn) (C : ExcC X.K D) (hz : Zc cls d oe) (hf : ∃ vs, oe.data = .fields vs) : CallR X (.builtin "isinstance") (rIsED X.K D a cls d) := by
  intro pins s σ H xs us Q I r h
  obtain ⟨ec0, hdd, c, cv, b, rfl, hcv, e, q⟩ := h
  subst ec0
  cases r with
  | cons rx rr =>
    cases rr with
    | cons rt rr =>
      cases rr
      cases rx
      have ec := hcv _ rt
      subst ec
      obtain ⟨hget, _⟩ := I.pin (a, oe) (List.mem_append.mpr (.inl hpn))
      obtain ⟨vs, hv⟩ := hf
      have J : ∃ od, PySem.W.InstAt s.heap a oe D od := by
        obtain ⟨oc, od, oda, osl⟩ := oe
        obtain ⟨h1, h2⟩ := hz
        dsimp only at h1 h2 hv
        subst h1 h2 hv
        cases od with
        | none => exact ⟨none, hget, rfl, rfl, trivial⟩
        | some dd =>
          obtain ⟨fs, hfs⟩ := hdd dd rfl
          obtain ⟨mA, hns, _⟩ := (show ObjOk X.prog X.w H s.heap dd (.xd fs) from I.hok dd _ hfs)
          obtain ⟨od, ho, _⟩ := lookIn_ns hns
          exact ⟨some od, hget, rfl, rfl, ho⟩
      exact PySem.W.kia_one (PySem.W.kitx_excD C) I.kIn J e (fun z => nomatch z) fun tk => ⟨.bl b, H, I.kept (t' := tk) fun _ _ z => z, rfl, q⟩
/-- e.f of it -/
theorem pe_xfP {a C : Addr} {oe : Obj} {cls : Value} {d : Option Addr} {e : Expr} {te : TE} {pos : Pos} {n : Str} (hpn : (a, oe) ∈ X.pn) (T : XfC X.K C) (hno : PySem.W.findIn X.K (.ref C) n = some none)
    (hz : Zc cls d oe) (hf : ∃ vs, oe.data = .fields vs) (he : PE X e te) (hb : attributeBase e n X.env (eval e X.env) = eval e X.env := by rfl) :
    PE X (.Attribute e n pos) (tXf a cls d C n te) := by
  refine ⟨fun pins s σ H Q I h => attr_of hb (thn (he.run pins s σ H _ I h) fun u s1 hh => ?_)⟩
  obtain ⟨x, H1, I1, rx, ex, ec, dd, fs, v, ed, ea, l, q⟩ := hh
  subst ex ec ed
  obtain rfl : u = Value.ref a := rx
  obtain ⟨hget, _⟩ := I1.pin (a, oe) (List.mem_append.mpr (.inl hpn))
  obtain ⟨vs, hv⟩ := hf
  obtain ⟨mA, hns, hr⟩ := (show ObjOk X.prog X.w H1 s1.heap dd (.xd fs) from I1.hok dd _ ea)
  obtain ⟨od, ho, hl⟩ := lookIn_ns hns
  obtain ⟨uu, hu, ru⟩ := RelO.some_of (v := v) (o := mA n) (by rw [← l]; exact hr n)
  have ncls : PySem.W.notCls oe = true := by
    unfold PySem.W.notCls
    rw [hv] <;> rfl
  have J : PySem.W.InstAt s1.heap a oe C (some od) := ⟨hget, hz.1, ncls, by rw [hz.2]; exact ho⟩
  have fo := PySem.W.findObj_own T.hdC hno (od := od) rfl (by rw [hl, hu])
  exact HandSPX.exc_get I1.kIn J T.ga T.gg T.exC fo (handed_of ru) ⟨v, H1, I1.tok _, ru, q⟩
end
end L2
namespace L2H
open PySem PySem.Spec PyProof.Rows L2 HotX
/-- such a def: its promise speaks of the held error, too -/
structure FnE (P : Program) (w : World) (K : PySem.W.Frag) (mg : Str → Option Value) (base : Heap) (CX : CXT) (k : Nat) (f : Addr) (fd : FuncData) (ps : List Str) (sp : Addr × Obj → Sp) : Prop where
  len : ∀ p vs H Q E, sp p vs H Q E → vs.length = ps.length
  run : ∀ (p : Addr × Obj) (AA : Around) (outer : List Env) (sh : Shared) (H : Hp) (args : Args) (us : List Value) (vs : List V) (Q : VK) (E : XK), RoomH k AA → PinOk outer H sh p → Env0 P w K mg base AA outer sh H →
    BindsTo sh fd args (ps.zip us) → Vals vs us → sp p vs H Q E → codeAny (model P w) AA (.call (.ref f) args) (CR CX outer P w H sh Q E) sh
section
variable {CX : CXT} {P : Program} {w : World} {K : PySem.W.Frag} {mg : Str → Option Value} {base : Heap} {k : Nat} {f : Addr} {fd : FuncData} {x qual : Str} {st : Stmt} {N ps : List Str} {sp : Addr × Obj → Sp}
theorem fnE_of (F : Fun K x qual st f fd) (S : FnScope N ps (defScope st)) (len : ∀ p vs H Q E, sp p vs H Q E → vs.length = ps.length)
    (hbody : ∀ (p : Addr × Obj) (cdv : Value) (AA : Around) (outer : List Env) (sh : Shared) (H : Hp) (vs : List V) (Q : VK) (E : XK), RoomH k (AA.deeper (envOfC qual (defScope st) sh.heap.objs.size f cdv)) → sp p vs H Q E →
      ∃ t, PSs (cxH CX P w K mg base N qual (defScope st) f cdv AA outer sh H E p) (defBody st) t ∧ t { nx := fun _ H' => Q .non H', rt := Q } (L2.start N vs) H) : FnE P w K mg base CX (k + 1) f fd ps sp := by
  obtain ⟨oc, od, kV, doc, pm, an, cdv, ct, osl, rfl, lk, hcd⟩ := F.ex
  refine ⟨len, fun p AA outer sh H args us vs Q E hr hpin e0 hb r hsp => ?_⟩
  have hl := len _ _ _ _ _ hsp
  have KX : K.In sh.heap := e0.mod.kin.keeps fun b o e => (e0.bs b o e).1
  have lim : sh.heap.NoLimit := e0.mod.nolimit.keeps fun b o e => (e0.bs b o e).1
  have binds : ∀ y ∈ ps.zip us, (defScope st).names.lookup y.1 = some .local ∨ ((defScope st).names.lookup y.1 = some .cell ∧ ((cellsFrom (sh.heap.objs.size + 1) (defScope st).names []).lookup y.1).isSome = true) := by
    rintro ⟨n, v⟩ hy
    rcases S.par n (List.of_mem_zip hy).1 with q | q
    · exact .inl q
    · exact .inr ⟨q, PySem.W.cellsFrom_some _ _ _ (.inl q)⟩
  refine codeAny_call_function hr.depth (KX _ _ lk) rfl S.co S.gen rfl (PySem.W.codeRec_of KX hcd) (hb _ _ _ _ ?_)
  refine wpAny_newFunctionEnv_cells S.kind binds fun env he s1 xx => ?_
  subst he
  refine ⟨lim.keeps xx.toInCall.keep, codeAny_func ?_⟩
  obtain ⟨t, ht, hq⟩ := hbody p cdv AA outer sh H vs Q E (hr.deeper _) hsp
  have I := inv_startH (CX := CX) (E := E) S hpin e0 hl r xx
  refine wpAny_mono (ht.run [] s1 (L2.start N vs) H _ I hq) (fun fl s' hs => ?_) fun _ _ hs => hs
  cases fl with
  | ret u =>
    obtain ⟨v, σ', H', J, rv, q⟩ := hs
    exact ⟨v, H', J.os, J.bare, J.base, J.hok, rv, q⟩
  | next =>
    obtain ⟨σ', H', J, q⟩ := hs
    exact ⟨V.non, H', J.os, J.bare, J.base, J.hok, rfl, q⟩
  | brk =>
    obtain ⟨_, _, _, q⟩ := hs
    exact q.elim
  | cont =>
    obtain ⟨_, _, _, q⟩ := hs
    exact q.elim
end
section
variable {X : Cx} {CX : CXT} {k : Nat} {f : Addr} {fd : FuncData} {ps : List Str} {sp : Addr × Obj → Sp} {x : Str} {q pos : Pos} {e : Expr} {es : List Expr} {t : TA} {p : Addr × Obj}
/-- f(e, ..) in the suite that holds p -/
theorem pe_callE (F : FnE X.prog X.w X.K X.mg X.base CX k f fd ps sp) (hr : RoomH k X.A) (hp : p ∈ X.pn) (hg : Gl X x) (hm : X.mg x = some (.ref f)) (hk : PySem.W.keepIn X.K (.ref f) = true) (hb : Binds X.K fd ps []) (hx : Passes CX X E0)
    (ha : PA X (e :: es) t) (hdb : (x == ("__debug__" : Str)) = false := by decide) (he : starEach (e :: es) X.env = (false, eval e X.env) :: starEach es X.env := by rfl) (hpl : (backTo pos (starEach es X.env)).any (·.1) = false := by rfl) :
    PE X (.Call (.Name x q) (e :: es) [] pos) (tCall (sp p) [] E0 t) := by
  refine ⟨fun pins s σ H Q I h => wpAny_Call_Name_kw (ld_glob I hg hm ?_ hdb)⟩
  refine PySem.W.callWith_K (h₀ := X.base) I.ok.mod.kin hk (thn (ha.run pos pins s σ H _ I h) fun us s1 ⟨vs, H1, I1, r, hsp⟩ => ⟨I1.kIn, ?_⟩) he hpl
  have hsp : sp p vs H1 Q E0 := by
    have z : sp p (vs ++ []) H1 Q E0 := hsp
    rwa [List.append_nil] at z
  have hl : us.length = ps.length := by
    rw [← r.length]
    exact F.len _ _ _ _ _ hsp
  have bd := hb s1 us I1.kIn (by rw [List.append_nil]; exact hl)
  rw [List.append_nil] at bd
  have P1 := I1.pin p (List.mem_append.mpr (.inl hp))
  have hpin : PinOk X.stack H1 s1 p := ⟨P1.1, P1.2.1, fun hm => (List.mem_cons.mp (I1.stkSub p.1 hm)).elim P1.2.2.1 P1.2.2.2.1, P1.2.2.2.2⟩
  refine wpAny_call (codeAny_mono (F.run p X.A X.stack s1 H1 ⟨us, []⟩ us vs Q E0 hr hpin I1.env0 bd r hsp) fun rr s' hq => ?_)
  match rr, hq with
  | .error ee, hq => exact hx pins σ H1 s1 ee s' I1 hq
  | .ok (.ret u), hq => exact I1.after hq
  | .ok .next, hq => exact hq.elim
  | .ok .brk, hq => exact hq.elim
  | .ok .cont, hq => exact hq.elim
end
end L2H
namespace L2
open PySem PySem.Spec PyProof.Rows
/-- a class of the top whose __init__ has defaults, dvs those that fill up -/
structure OwnCD (P : Program) (w : World) (K : PySem.W.Frag) (mg : Str → Option Value) (base : Heap) (CX : CXT) (x : Str) (C : Addr) (k : Nat) (ps : List Str) (sp : Sp) (dvs : List V) : Prop where
  ex : ∃ (f : Addr) (fd : FuncData) (ds : List Value), FnOk P w K mg base CX k f fd ps sp ∧ Mk K C f ∧ mg x = some (.ref C) ∧ Binds K fd ps ds ∧ Vals dvs ds
section
variable {X : Cx} {CX : CXT} {x : Str} {k : Nat} {ps : List Str} {sp : Sp} {e : Expr} {es : List Expr} {t : TA} {p pos : Pos} {C : Addr} {dvs : List V}
theorem pe_newD (O : OwnCD X.prog X.w X.K X.mg X.base CX x C k ps sp dvs) (hr : Room (k + 1) X.A) (hx : Passes CX X E0) (ha : PA X (e :: es) t) (hg : Gl X x := by rfl) (hdb : (x == ("__debug__" : Str)) = false := by decide)
    (he : starEach (e :: es) X.env = (false, eval e X.env) :: starEach es X.env := by rfl) (hpl : (backTo pos (starEach es X.env)).any (·.1) = false := by rfl) : PE X (.Call (.Name x p) (e :: es) [] pos) (tMake C sp dvs E0 t) := by
  obtain ⟨f, fd, ds, F, M, hm, hb, hv⟩ := O.ex
  exact pe_make M F hr hg hm hb hv hx ha hdb he hpl
end
end L2

set_option Elab.async false
set_option maxRecDepth 100000
set_option maxHeartbeats 4000000
/-! a op b op c op d -/
namespace L2
open PySem PySem.Spec PyProof.Rows
def tCh3 (r r' r2 : R2) (ta tb tc td : TE) : TE := fun σ H Q => ta σ H fun x H1 => tb σ H1 fun y H2 => r x y H2 fun z H3 => ∃ k, z = .bl k ∧
  (if k = true then tc σ H3 fun u H4 => r' y u H4 fun z' H5 => ∃ k', z' = .bl k' ∧ (if k' = true then td σ H5 fun v H6 => r2 u v H6 Q else Q (.bl false) H5) else Q (.bl false) H3)
section
variable {X : Cx} {a b c d : Expr} {pos : Pos} {ta tb tc td : TE} {op op' op2 : CmpOp} {r r' r2 : R2}
theorem pe_chain3 (ho : OpR X (compareOp op) r) (ho' : OpR X (compareOp op') r') (ho2 : OpR X (compareOp op2) r2) (ha : PE X a ta) (hb : PE X b tb) (hc : PE X c tc) (hd : PE X d td)
    (hm : lastMarks [op, op', op2] [b, c, d] = false := by with_unfolding_all rfl) : PE X (.Compare a [op, op', op2] [b, c, d] pos) (tCh3 r r' r2 ta tb tc td) := by
  refine ⟨fun pins s σ H Q I h => ?_⟩
  refine Compare_chain (thn (ha.run pins s σ H _ I h) fun v s1 ⟨x, H1, I1, r1, q1⟩ => chain_link (thn (hb.run pins s1 σ H1 _ I1 q1) fun u s2 ⟨y, H2, I2, r2', q2⟩ =>
    thn (ho pins s2 σ H2 x y v u _ I2 r1 r2' q2) fun e s3 ⟨z, H3, I3, r3, k, ez, q3⟩ => ?_)) hm
  subst ez
  cases r3
  refine wpAny_truthy_bool ?_
  cases k with
  | false => exact ite_ff ⟨.bl false, H3, I3, rfl, q3⟩
  | true =>
    refine ite_tt (chain_link (thn (hc.run pins s3 σ H3 _ I3 q3) fun u2 s4 ⟨z4, H4, I4, r4, q4⟩ => thn (ho' pins s4 σ H4 y z4 u u2 _ I4 r2' r4 q4) fun e5 s5 ⟨z5, H5, I5, r5, k5, ez5, q5⟩ => ?_))
    subst ez5
    cases r5
    refine wpAny_truthy_bool ?_
    cases k5 with
    | false => exact ite_ff ⟨.bl false, H5, I5, rfl, q5⟩
    | true => exact ite_tt (chain_last (thn (hd.run pins s5 σ H5 _ I5 q5) fun u6 s6 ⟨z6, H6, I6, r6, q6⟩ => ho2 pins s6 σ H6 z4 z6 u2 u6 Q I6 r4 r6 q6))
theorem pt_chain3 (ho : OpR X (compareOp op) r) (ho' : OpR X (compareOp op') r') (ho2 : OpR X (compareOp op2) r2) (ha : PE X a ta) (hb : PE X b tb) (hc : PE X c tc) (hd : PE X d td)
    (hm : lastMarks [op, op', op2] [b, c, d] = false := by with_unfolding_all rfl) : PT X (.Compare a [op, op', op2] [b, c, d] pos) (tTest (tCh3 r r' r2 ta tb tc td)) := by
  refine ⟨fun pins s σ H Q I h => ?_⟩
  refine isTrue_chain (thn (ha.run pins s σ H _ I h) fun v s1 ⟨x, H1, I1, r1, q1⟩ => test_link (thn (hb.run pins s1 σ H1 _ I1 q1) fun u s2 ⟨y, H2, I2, r2', q2⟩ =>
    thn (ho pins s2 σ H2 x y v u _ I2 r1 r2' q2) fun e s3 ⟨z, H3, I3, r3, k, ez, q3⟩ => ?_)) hm
  subst ez
  cases r3
  refine wpAny_truthy_bool ?_
  cases k with
  | false =>
    obtain ⟨k', e', q'⟩ := q3
    cases e'
    exact ite_ff ⟨H3, I3, q'⟩
  | true =>
    refine ite_tt (test_link (thn (hc.run pins s3 σ H3 _ I3 q3) fun u2 s4 ⟨z4, H4, I4, r4, q4⟩ => thn (ho' pins s4 σ H4 y z4 u u2 _ I4 r2' r4 q4) fun e5 s5 ⟨z5, H5, I5, r5, k5, ez5, q5⟩ => ?_))
    subst ez5
    cases r5
    refine wpAny_truthy_bool ?_
    cases k5 with
    | false =>
      obtain ⟨k', e', q'⟩ := q5
      cases e'
      exact ite_ff ⟨H5, I5, q'⟩
    | true =>
      refine ite_tt (test_last (thn (hd.run pins s5 σ H5 _ I5 q5) fun u6 s6 ⟨z6, H6, I6, r6, q6⟩ => thn (ho2 pins s6 σ H6 z4 z6 u2 u6 _ I6 r4 r6 q6) fun e7 s7 ⟨z7, H7, I7, r7, k7, ez7, q7⟩ => ?_))
      subst ez7
      cases r7
      exact wpAny_truthy_bool ⟨H7, I7, q7⟩
end
end L2
namespace L2
open PySem PySem.Spec PyProof.Rows
def numV : V → Bool | .int _ => true | _ => false
section
variable {K : PySem.W.Frag} {σ : St} {H : Hp} {p : Addr} {xs : List V} {te : TE} {tt : TT} {j : Nat} {vs : List Nat} {Q : VK} {v : V} {d : PyData}
theorem num_dp (h : Dp K H v d) : (isIntD d && !isBoolD d) = numV v := by cases h <;> rfl
theorem non_dp (h : Dp K H v d) : decide (v = .non) = isNoneD d := by cases h <;> simp [isNoneD]
/-- [f(x) for x in xs if b(x)] over a list or a tuple wherever it stands, what is tested and made only adding to the heap -/
theorem lc_sqG {Qd : Addr → Hp → Prop} {f : V → V} {b : V → Bool} (hx : SqL K H p xs ∨ SqT K H p xs) (hz : xs.length < sizeLine) (hw : ∀ x, wipe ((wipe σ vs).set j (some x)) vs = wipe σ vs)
    (ht : ∀ x ∈ xs, ∀ H', Ext H H' → ∀ Q : Bool → Hp → Prop, (∀ H'', Ext H' H'' → Q (b x) H'') → tt ((wipe σ vs).set j (some x)) H' Q)
    (he : ∀ x ∈ xs, b x = true → ∀ H', Ext H H' → ∀ Q : VK, (∀ H'', Ext H' H'' → Q (f x) H'') → te ((wipe σ vs).set j (some x)) H' Q)
    (q : ∀ D H', H D = none → Ext H H' → H' D = some (.lst ((xs.filter b).map f)) → Qd D H') :
    ((∃ xs, SqL K H p xs) ∧ (fun J H1 => ∀ D, H1 D = none → ∃ W : Nat → Nat → Hp → Prop, (∃ m, W 0 m (upd H1 D (.lst []))) ∧ ∀ i m H, W i m H →
      (J.stop i H ∧ Qd D H) ∨ (J.go i H ∧ ∃ Nx : Hp → Prop, (∀ H', Nx H' → ∃ m', m' < m ∧ W (i + 1) m' H') ∧ ∀ x H', J.yld i H x H' → gName j x (wipe σ vs) H' fun σ2 H2 => wipe σ2 vs = wipe σ vs ∧ tt σ2 H2 fun b H3 =>
        if b = true then te σ2 H3 fun y H4 => ∃ acc, H4 D = some (.lst acc) ∧ acc.length < sizeLine ∧ Nx (upd H4 D (.lst (acc ++ [y]))) else Nx H3)) (Itl K p) H) ∨
    ((∃ xs, SqT K H p xs) ∧ (fun J H1 => ∀ D, H1 D = none → ∃ W : Nat → Nat → Hp → Prop, (∃ m, W 0 m (upd H1 D (.lst []))) ∧ ∀ i m H, W i m H →
      (J.stop i H ∧ Qd D H) ∨ (J.go i H ∧ ∃ Nx : Hp → Prop, (∀ H', Nx H' → ∃ m', m' < m ∧ W (i + 1) m' H') ∧ ∀ x H', J.yld i H x H' → gName j x (wipe σ vs) H' fun σ2 H2 => wipe σ2 vs = wipe σ vs ∧ tt σ2 H2 fun b H3 =>
        if b = true then te σ2 H3 fun y H4 => ∃ acc, H4 D = some (.lst acc) ∧ acc.length < sizeLine ∧ Nx (upd H4 D (.lst (acc ++ [y]))) else Nx H3)) (Itt K p) H) := by
  have turn : ∀ (D : Addr), H D = none → ∀ i x H', xs[i]? = some x → (Ext H H' ∧ H' D = some (.lst (((xs.take i).filter b).map f))) → gName j x (wipe σ vs) H' fun σ2 H2 => wipe σ2 vs = wipe σ vs ∧ tt σ2 H2 fun b' H3 =>
      if b' = true then te σ2 H3 fun y H4 => ∃ acc, H4 D = some (.lst acc) ∧ acc.length < sizeLine ∧ (Ext H (upd H4 D (.lst (acc ++ [y]))) ∧ upd H4 D (.lst (acc ++ [y])) D = some (.lst (((xs.take (i + 1)).filter b).map f))) else (Ext H H3 ∧ H3 D = some (.lst (((xs.take (i + 1)).filter b).map f))) := by
    intro D hD i x H' hi pv
    obtain ⟨e, hl⟩ := pv
    have hm : x ∈ xs := List.mem_of_getElem? hi
    refine ⟨hw x, ht x hm H' e _ fun H3 e3 => ?_⟩
    have hl3 : H3 D = some (.lst (((xs.take i).filter b).map f)) := e3 _ _ hl
    cases hb : b x with
    | true =>
      refine iteT (he x hm hb H3 (e.trans e3) _ fun H4 e4 => ⟨_, e4 _ _ hl3, ?_, ext_mut ((e.trans e3).trans e4) hD, ?_⟩)
      · rw [List.length_map]
        refine Nat.lt_of_le_of_lt (Nat.le_trans (List.length_filter_le _ _) ?_) hz
        exact List.length_take_le' _ _
      · rw [upd_same, take_snoc hi, List.filter_append, List.map_append]
        simp [hb]
    | false =>
      refine iteF ⟨e.trans e3, ?_⟩
      rw [hl3, take_snoc hi, List.filter_append, List.map_append]
      simp [hb]
  have fin : ∀ D, H D = none → ∀ H', (Ext H H' ∧ H' D = some (.lst (((xs.take xs.length).filter b).map f))) → Qd D H' := fun D hD H' pv => by
    rw [List.take_length] at pv
    exact q D H' hD pv.1 pv.2
  rcases hx with hx | hx
  · refine .inl ⟨⟨xs, hx⟩, fun D hD => lc_list (xs := xs) (fun i H' => Ext H H' ∧ H' D = some (.lst (((xs.take i).filter b).map f))) ⟨Ext.upd hD, upd_same⟩ (fun i H' _ pv => hx.ext pv.1) (fun i x H' hi pv => turn D hD i x H' hi pv) (fun H' pv => fin D hD H' pv)⟩
  · refine .inr ⟨⟨xs, hx⟩, fun D hD => lc_tup (xs := xs) (fun i H' => Ext H H' ∧ H' D = some (.lst (((xs.take i).filter b).map f))) ⟨Ext.upd hD, upd_same⟩ (fun i H' _ pv => hx.ext pv.1) (fun i x H' hi pv => turn D hD i x H' hi pv) (fun H' pv => fin D hD H' pv)⟩
end
end L2

set_option Elab.async false
set_option maxRecDepth 100000
set_option maxHeartbeats 4000000
namespace L2
open PySem PySem.Spec PyProof.Rows
section
variable {X : Cx} {m : Str} {k : Nat} {ps : List Str} {sp : Sp} {e o : Expr} {es : List Expr} {t : TA} {ta : TE} {pos apos : Pos} {C : Addr} {W : WX}
/-- o.m(e, ..) that may raise; W is wished for what it raises -/
theorem pe_ownMS {pl : Sem Bool} (O : OwnM X.prog X.w X.K X.mg X.base (L2.CX X.prog X.w) C m k ps sp) (he : PE X o ta) (c : Cls X.K C) (hr : Room k X.A) (tk : Takes X W) (ha : PA X (e :: es) t)
    (hst : starEach (e :: es) X.env = (false, eval e X.env) :: starEach es X.env := by rfl) (hpl : (backTo pos (starEach es X.env)).any (·.1) = false := by rfl)
    (ht : eval (.Call (.Attribute o m apos) (e :: es) [] pos) X.env = (do
      let ov ← eval o X.env
      standAt apos.atName
      let (f, first) ← holding [ov] (getMethod ov m pl)
      callWith pos f first (backTo pos (starEach (e :: es) X.env)) (backToKw pos (keywordEach [] X.env))) := by rfl) :
    PE X (.Call (.Attribute o m apos) (e :: es) [] pos) (tMethSD C m sp [] (WE W) ta t) := by
  obtain ⟨f, fd, F, M, _, hb⟩ := O.ex
  exact pe_methSD he c M F hr hb .nil (fun σ => passAt tk σ) ha hst hpl ht
theorem PE.imp {ex : Expr} {t1 t2 : TE} (h : PE X ex t1) (i : ∀ σ H Q, t2 σ H Q → t1 σ H Q) : PE X ex t2 := ⟨fun pins s σ H Q I z => h.run pins s σ H Q I (i σ H Q z)⟩
end
end L2

set_option Elab.async false
set_option linter.all false
set_option maxRecDepth 100000
set_option maxHeartbeats 4000000
/-! tuples of own objects, compared by their own ==, whichever the answer -/
namespace GQ
open PySem PySem.SeqAt
open AutoSeq1 (wpAny_loadPart')
open MeetsSeq MeetsSeq2 MeetsSeq3 SeqRoads2
section
variable {prog : Program} {w : World} {A : Around} {R : Result → Shared → Prop}
/-- the places one by one: I goes on, J at the first two that differ -/
theorem tup_eqB (la lb : Addr) (xs ys : Array Value) (n n2 : Nat) (dd dd2 : Option Addr) (sl sl2 : Array (Option Value)) (hsz : xs.size = ys.size) (I : Nat → Shared → Prop) (J : Shared → Prop)
    (turn : ∀ i (h1 : i < xs.size) (h2 : i < ys.size) s, I i s → wpAny (model prog w) A.in1 (eqBool xs[i] ys[i]) (fun r s' => (r = true ∧ I (i + 1) s') ∨ (r = false ∧ J s')) (fun e s' => R (.error e) s') s)
    (finT : ∀ s, I xs.size s → R (.ok (.ret (.bool true))) s) (finF : ∀ s, J s → R (.ok (.ret (.bool false))) s) {s : Shared}
    (hla : s.heap.get? la = some { cls := .type "tuple", dict := dd, data := .seq xs n, slots := sl }) (hlb : s.heap.get? lb = some { cls := .type "tuple", dict := dd2, data := .seq ys n2, slots := sl2 }) (h : I 0 s) :
    wpAny (model prog w) A.in1 (Builtin.«tuple.__eq__» ⟨[.ref la, .ref lb], []⟩) (FinOf prog w A R) (fun e s' => R (.error e) s') s := by
  have f2 := AutoSeq1.sub_tuple_tuple
  have hZ : (xs.toList.zip ys.toList).length = xs.size := by simp [hsz]
  have h0 := h
  obtain ⟨hp, g, d, tk, os⟩ := s
  wp_walk using wpAny_loadPart' hla, wpAny_loadPart' hlb, wpAny_forIn_list _ (fun rest b s' => b.1 = none ∧ ∃ i, rest = (xs.toList.zip ys.toList).drop i ∧ i ≤ xs.size ∧ I i s') _
  case turn =>
    rintro ⟨y, x⟩ rest b s' ⟨hb', i, hz, hi, hI⟩
    have hlt : i < (xs.toList.zip ys.toList).length := by
      rcases Nat.lt_or_ge i (xs.toList.zip ys.toList).length with h' | h'
      · exact h'
      · rw [List.drop_of_length_le h'] at hz
        cases hz
    have h1 : i < xs.size := hZ ▸ hlt
    have h2 : i < ys.size := hsz ▸ h1
    rw [List.drop_eq_getElem_cons hlt] at hz
    injection hz with hyx hrest
    have hy : y = xs[i] := by
      have q := congrArg Prod.fst hyx
      simpa using q
    have hx : x = ys[i] := by
      have q := congrArg Prod.snd hyx
      simpa using q
    subst hy hx
    refine wpAny_bind (wpAny_mono (turn i h1 h2 s' hI) (fun r s2 q2 => ?_) fun _ _ x => x)
    rcases q2 with ⟨hr, q2⟩ | ⟨hr, q2⟩
    · subst hr
      wp_walk
      exact ⟨rfl, i + 1, hrest, h1, q2⟩
    · subst hr
      have hR : R (.ok (.ret (.bool false))) s2 := finF s2 q2
      wp_walk
      exact hR
  case fin =>
    rintro ⟨b1, b2⟩ s' ⟨hb', i, hz, hi, hI⟩
    simp only at hb'
    subst hb'
    have hge : xs.size ≤ i := by
      rcases Nat.lt_or_ge i (xs.toList.zip ys.toList).length with h' | h'
      · rw [List.drop_eq_getElem_cons h'] at hz
        cases hz
      · exact hZ ▸ h'
    have hi' : i = xs.size := by omega
    have hR : R (.ok (.ret (.bool true))) s' := finT s' (hi' ▸ hI)
    wp_walk
    simpa [Builtin.Tuple.tupleCompareSizes, hsz] using hR
  case h =>
    exact ⟨rfl, 0, rfl, Nat.zero_le _, h0⟩
/-- the same for != -/
theorem tup_neB (la lb : Addr) (xs ys : Array Value) (n n2 : Nat) (dd dd2 : Option Addr) (sl sl2 : Array (Option Value)) (hsz : xs.size = ys.size) (I : Nat → Shared → Prop) (J : Shared → Prop)
    (turn : ∀ i (h1 : i < xs.size) (h2 : i < ys.size) s, I i s → wpAny (model prog w) A.in1 (eqBool xs[i] ys[i]) (fun r s' => (r = true ∧ I (i + 1) s') ∨ (r = false ∧ J s')) (fun e s' => R (.error e) s') s)
    (finT : ∀ s, I xs.size s → R (.ok (.ret (.bool false))) s) (finF : ∀ s, J s → R (.ok (.ret (.bool true))) s) {s : Shared}
    (hla : s.heap.get? la = some { cls := .type "tuple", dict := dd, data := .seq xs n, slots := sl }) (hlb : s.heap.get? lb = some { cls := .type "tuple", dict := dd2, data := .seq ys n2, slots := sl2 }) (h : I 0 s) :
    wpAny (model prog w) A.in1 (Builtin.«tuple.__ne__» ⟨[.ref la, .ref lb], []⟩) (FinOf prog w A R) (fun e s' => R (.error e) s') s := by
  have f2 := AutoSeq1.sub_tuple_tuple
  have hZ : (xs.toList.zip ys.toList).length = xs.size := by simp [hsz]
  have h0 := h
  obtain ⟨hp, g, d, tk, os⟩ := s
  wp_walk using wpAny_loadPart' hla, wpAny_loadPart' hlb, wpAny_forIn_list _ (fun rest b s' => b.1 = none ∧ ∃ i, rest = (xs.toList.zip ys.toList).drop i ∧ i ≤ xs.size ∧ I i s') _
  case turn =>
    rintro ⟨y, x⟩ rest b s' ⟨hb', i, hz, hi, hI⟩
    have hlt : i < (xs.toList.zip ys.toList).length := by
      rcases Nat.lt_or_ge i (xs.toList.zip ys.toList).length with h' | h'
      · exact h'
      · rw [List.drop_of_length_le h'] at hz
        cases hz
    have h1 : i < xs.size := hZ ▸ hlt
    have h2 : i < ys.size := hsz ▸ h1
    rw [List.drop_eq_getElem_cons hlt] at hz
    injection hz with hyx hrest
    have hy : y = xs[i] := by
      have q := congrArg Prod.fst hyx
      simpa using q
    have hx : x = ys[i] := by
      have q := congrArg Prod.snd hyx
      simpa using q
    subst hy hx
    refine wpAny_bind (wpAny_mono (turn i h1 h2 s' hI) (fun r s2 q2 => ?_) fun _ _ x => x)
    rcases q2 with ⟨hr, q2⟩ | ⟨hr, q2⟩
    · subst hr
      wp_walk
      exact ⟨rfl, i + 1, hrest, h1, q2⟩
    · subst hr
      have hR : R (.ok (.ret (.bool true))) s2 := finF s2 q2
      wp_walk
      exact hR
  case fin =>
    rintro ⟨b1, b2⟩ s' ⟨hb', i, hz, hi, hI⟩
    simp only at hb'
    subst hb'
    have hge : xs.size ≤ i := by
      rcases Nat.lt_or_ge i (xs.toList.zip ys.toList).length with h' | h'
      · rw [List.drop_eq_getElem_cons h'] at hz
        cases hz
      · exact hZ ▸ h'
    have hi' : i = xs.size := by omega
    have hR : R (.ok (.ret (.bool false))) s' := finT s' (hi' ▸ hI)
    wp_walk
    simpa [Builtin.Tuple.tupleCompareSizes, bne, hsz] using hR
  case h =>
    exact ⟨rfl, 0, rfl, Nat.zero_le _, h0⟩
end
end GQ
namespace GQ
open PySem PySem.SeqAt
section
variable {prog : Program} {w : World} {A : Around} {E : Value → Shared → Prop} {s : Shared}
theorem rc_tupB {la lb : Addr} {xs ys : Array Value} {Q : Value → Shared → Prop} (hsz : xs.size = ys.size) (hu : A.units < cLine) (I : Nat → Shared → Prop) (J : Shared → Prop) (hla : s.heap.IsTuple la xs) (hlb : s.heap.IsTuple lb ys)
    (turn : ∀ i (h1 : i < xs.size) (h2 : i < ys.size) s, I i s → wpAny (model prog w) A.in1 (eqBool xs[i] ys[i]) (fun r s' => (r = true ∧ I (i + 1) s') ∨ (r = false ∧ J s')) E s)
    (finT : ∀ s, I xs.size s → Q (.bool true) s) (finF : ∀ s, J s → Q (.bool false) s) (h : I 0 s) : wpAny (model prog w) A (richCompare .Eq (.ref la) (.ref lb)) Q E s := by
  obtain ⟨⟨cls, dd, data, sl⟩, ho, hc, n, hd⟩ := id hla
  obtain ⟨⟨cls2, dd2, data2, sl2⟩, ho2, hc2, n2, hd2⟩ := id hlb
  simp only at hc hd hc2 hd2
  subst hc hd hc2 hd2
  refine wpAny_richCompare_same_room (op := .Eq) ⟨_, ho, rfl⟩ ⟨_, ho2, rfl⟩ F.slot_tuple_eq (call_here F.slot_tuple_eq ⟨_, ho, rfl⟩ F.entry_tuple_eq (F.args_tuple_eq_2 _ _) ?_) hu
  exact tup_eqB (R := wants (fun v s' => v ≠ .notImplemented ∧ Q v s') E) la lb xs ys n n2 dd dd2 sl sl2 hsz I J turn (fun s' q => ⟨(fun x => nomatch x), finT s' q⟩) (fun s' q => ⟨(fun x => nomatch x), finF s' q⟩) ho ho2 h
theorem rc_tupNB {la lb : Addr} {xs ys : Array Value} {Q : Value → Shared → Prop} (hsz : xs.size = ys.size) (hu : A.units < cLine) (I : Nat → Shared → Prop) (J : Shared → Prop) (hla : s.heap.IsTuple la xs) (hlb : s.heap.IsTuple lb ys)
    (turn : ∀ i (h1 : i < xs.size) (h2 : i < ys.size) s, I i s → wpAny (model prog w) A.in1 (eqBool xs[i] ys[i]) (fun r s' => (r = true ∧ I (i + 1) s') ∨ (r = false ∧ J s')) E s)
    (finT : ∀ s, I xs.size s → Q (.bool false) s) (finF : ∀ s, J s → Q (.bool true) s) (h : I 0 s) : wpAny (model prog w) A (richCompare .NotEq (.ref la) (.ref lb)) Q E s := by
  obtain ⟨⟨cls, dd, data, sl⟩, ho, hc, n, hd⟩ := id hla
  obtain ⟨⟨cls2, dd2, data2, sl2⟩, ho2, hc2, n2, hd2⟩ := id hlb
  simp only at hc hd hc2 hd2
  subst hc hd hc2 hd2
  refine wpAny_richCompare_same_room (op := .NotEq) ⟨_, ho, rfl⟩ ⟨_, ho2, rfl⟩ F.slot_tuple_ne (call_here F.slot_tuple_ne ⟨_, ho, rfl⟩ F.entry_tuple_ne (F.args_tuple_ne_2 _ _) ?_) hu
  exact tup_neB (R := wants (fun v s' => v ≠ .notImplemented ∧ Q v s') E) la lb xs ys n n2 dd dd2 sl sl2 hsz I J turn (fun s' q => ⟨(fun x => nomatch x), finT s' q⟩) (fun s' q => ⟨(fun x => nomatch x), finF s' q⟩) ho ho2 h
end
end GQ
namespace L2
open PySem PySem.Spec PyProof.Rows
/-- how two values compare, by the abstract heap -/
abbrev EqvB := V → V → Hp → Bool → Prop
def MonB (D : EqvB) : Prop := ∀ x y H H' k, Ext H H' → D x y H k → D x y H' k
def EqB (X : Cx) (n : Nat) (D : EqvB) : Prop :=
  ∀ (A : Around) (pins : List (Addr × Obj)) (s : Shared) (σ : St) (H : Hp) (x y : V) (u v : Value) (k : Bool), Sub X n A → Inv X pins σ H s → RelV x u → RelV y v → D x y H k →
    wpAny (model X.prog X.w) A (eqBool u v) (fun r s' => r = k ∧ ∃ H', Inv X pins σ H' s' ∧ Ext H H') X.xe s
def RcB (X : Cx) (n : Nat) (D : EqvB) : Prop :=
  ∀ (A : Around) (pins : List (Addr × Obj)) (s : Shared) (σ : St) (H : Hp) (x y : V) (u v : Value) (k : Bool), Sub X n A → Inv X pins σ H s → RelV x u → RelV y v → D x y H k →
    wpAny (model X.prog X.w) A (richCompare .Eq u v) (fun r s' => r = .bool k ∧ ∃ H', Inv X pins σ H' s' ∧ Ext H H') X.xe s
section
variable {X : Cx} {n : Nat} {D : EqvB}
/-- instances of the class at C -/
def DInsB (C : Addr) (R : Addr → Addr → Hp → Bool → Prop) : EqvB := fun x y H k => ∃ a b dx dy fs gs, x = .ref a ∧ y = .ref b ∧ H a = some (.ins C dx fs) ∧ H b = some (.ins C dy gs) ∧ R a b H k
def spEqB (R : Addr → Addr → Hp → Bool → Prop) : Sp := fun vs H Q _ => ∃ a b k, vs = [.ref a, .ref b] ∧ R a b H k ∧ ∀ H', Ext H H' → Q (.bl k) H'
theorem rcB_ins {CX : CXT} {C f : Addr} {fd : FuncData} {ps : List Str} {R : Addr → Addr → Hp → Bool → Prop} {E : XK} (F : FnOk X.prog X.w X.K X.mg X.base CX n f fd ps (spEqB R))
    (hs : PySem.W.findIn X.K (.ref C) "__eq__" = some (some (.ref f))) (hf : PySem.W.isFn X.K (.ref f) = true) (hb : Binds X.K fd ps []) (hx : Passes CX X E) : RcB X n (DInsB C R) := by
  intro A pins s σ H x y u v k sb I rx ry d
  obtain ⟨a, b, dx, dy, fs, gs, rfl, rfl, ha, hb', hr⟩ := d
  cases rx
  cases ry
  obtain ⟨mA, J, _⟩ := ins_get I.hok ha
  obtain ⟨mB, J', _⟩ := ins_get I.hok hb'
  obtain ⟨od, J, _⟩ := J.look
  obtain ⟨od', J', _⟩ := J'.look
  obtain ⟨m, hF⟩ := I.fr
  refine PySem.W.cmp_K (op := .Eq) (tb := .ref C) sb.room.units0 hF I.ok.mod.kin J J'.type (by simp [PySem.W.notFirst]) hs hf ?_
  have hsp : spEqB R [.ref a, .ref b] H (fun v H' => v = .bl k ∧ Ext H H') E := ⟨a, b, k, rfl, hr, fun H' e => ⟨rfl, e⟩⟩
  have e1 := I.env0
  have e0 : Env0 X.prog X.w X.K X.mg X.base A X.stack s H := ⟨by rw [sb.fr]; exact e1.frames, e1.mod, e1.bs, e1.bsz, e1.funs, e1.frf, e1.hok, e1.bare⟩
  have hl := F.len _ _ _ _ hsp
  have bd := hb s [.ref a, .ref b] I.kIn (by simpa using hl)
  have bd' : BindsTo s fd ⟨[.ref a, .ref b], []⟩ (ps.zip [.ref a, .ref b]) := by simpa using bd
  refine wpAny_call (codeAny_mono (F.run A X.stack s H ⟨[.ref a, .ref b], []⟩ [.ref a, .ref b] [.ref a, .ref b] _ E sb.room e0 bd' (.cons rfl (.cons rfl .nil)) hsp) fun r s' hq => ?_)
  match r, hq with
  | .error e, hq => exact hx pins σ H s e s' I hq
  | .ok (.ret z), hq =>
    obtain ⟨zv, H', I', rz, ez, ex⟩ := I.after hq
    subst ez
    cases rz
    exact ⟨rfl, H', I', ex⟩
  | .ok .next, hq => exact hq.elim
  | .ok .brk, hq => exact hq.elim
  | .ok .cont, hq => exact hq.elim
/-- within a tuple: the same object is equal to itself -/
theorem RcB.eqB (h : RcB X n D) (hr : ∀ x y H k, D x y H k → ∃ a b, x = .ref a ∧ y = .ref b ∧ (a = b → k = true)) : EqB X n D := by
  intro A pins s σ H x y u v k sb I rx ry d
  obtain ⟨a, b, rfl, rfl, hk⟩ := hr _ _ _ _ d
  cases rx
  cases ry
  by_cases hab : a = b
  · have hk' := hk hab
    subst hab hk'
    exact SeqAt.EqAt.same (A := A) (s := s) (.ref a) X.prog X.w X.xe _ ⟨rfl, H, I, Ext.rfl'⟩
  · refine GQ.eqBool_refG hab (wpAny_mono (h A pins s σ H (.ref a) (.ref b) _ _ k sb I rfl rfl d) (fun r s' q => ?_) fun _ _ x => x)
    obtain ⟨hr', q⟩ := q
    exact ⟨k, hr', rfl, q⟩
/-- tuples of one length, place by place; ks the answers -/
def DTupB (K : PySem.W.Frag) (D : EqvB) : EqvB := fun x y H k => ∃ (a b : Addr) (xs ys : List V) (ks : List Bool), x = .ref a ∧ y = .ref b ∧ SqT K H a xs ∧ SqT K H b ys ∧ xs.length = ys.length ∧ ks.length = xs.length ∧
  (∀ (i : Nat) x y c, xs[i]? = some x → ys[i]? = some y → ks[i]? = some c → D x y H c) ∧ k = ks.all id
theorem all_take {ks : List Bool} {i : Nat} (h : ∀ j, j < i → ks[j]? = some true) (hi : ks.length ≤ i) : ks.all id = true := by
  rw [List.all_eq_true]
  intro c hc
  obtain ⟨j, hj⟩ := List.mem_iff_getElem?.mp hc
  have hjl := (List.getElem?_eq_some_iff.mp hj).1
  have q := h j (Nat.lt_of_lt_of_le hjl hi)
  rw [hj] at q
  cases q
  rfl
theorem rcB_tup (hD : MonB D) (h : EqB X n D) : RcB X (n + 1) (DTupB X.K D) := by
  intro A pins s σ H x y u v k sb I rx ry d
  obtain ⟨a, b, xs, ys, ks, rfl, rfl, ha, hb, hlen, hks, hp, rfl⟩ := d
  cases rx
  cases ry
  obtain ⟨its, r, e, z⟩ := I.tuple ha
  obtain ⟨its2, r2, e2, z2⟩ := I.tuple hb
  have l1 := r.length
  have l2 := r2.length
  have hsz : its.toArray.size = its2.toArray.size := by rw [List.size_toArray, List.size_toArray, ← l1, ← l2]; exact hlen
  refine GQ.rc_tupB hsz sb.room.units0 (fun i s' => (∃ H', Inv X pins σ H' s' ∧ Ext H H') ∧ ∀ j, j < i → ks[j]? = some true) (fun s' => (∃ H', Inv X pins σ H' s' ∧ Ext H H') ∧ ks.all id = false) e e2 (fun i h1 h2 s' q => ?_) (fun s' q => ?_) (fun s' q => ?_) ⟨⟨H, I, Ext.rfl'⟩, fun j hj => absurd hj (Nat.not_lt_zero _)⟩
  · obtain ⟨⟨H1, I1, e1⟩, hk⟩ := q
    have h1' : i < its.length := by simpa using h1
    have h2' : i < its2.length := by simpa using h2
    have g1 : its[i]? = some its.toArray[i] := by rw [List.getElem?_eq_getElem h1'] <;> simp
    have g2 : its2[i]? = some its2.toArray[i] := by rw [List.getElem?_eq_getElem h2'] <;> simp
    have k1 : i < xs.length := by omega
    have k2 : i < ys.length := by omega
    have k3 : i < ks.length := by omega
    obtain ⟨uu, hu, ru⟩ := r.get (List.getElem?_eq_getElem k1)
    obtain ⟨vv, hv, rv⟩ := r2.get (List.getElem?_eq_getElem k2)
    rw [g1] at hu
    rw [g2] at hv
    rw [Option.some.inj hu, Option.some.inj hv]
    refine wpAny_mono (h A.in1 pins s' σ H1 _ _ uu vv ks[i] sb.in1 I1 ru rv (hD _ _ _ _ _ e1 (hp i _ _ _ (List.getElem?_eq_getElem k1) (List.getElem?_eq_getElem k2) (List.getElem?_eq_getElem k3)))) (fun rr s2 q2 => ?_) fun _ _ x => x
    obtain ⟨hr, H2, I2, e2'⟩ := q2
    have hki : ks[i]? = some rr := by rw [hr]; exact List.getElem?_eq_getElem k3
    cases rr with
    | true =>
      refine .inl ⟨rfl, ⟨H2, I2, e1.trans e2'⟩, fun j hj => ?_⟩
      rcases Nat.lt_succ_iff_lt_or_eq.mp hj with hj | rfl
      · exact hk j hj
      · exact hki
    | false =>
      refine .inr ⟨rfl, ⟨H2, I2, e1.trans e2'⟩, ?_⟩
      rw [List.all_eq_false]
      exact ⟨false, List.mem_of_getElem? hki, by decide⟩
  · obtain ⟨q1, hk⟩ := q
    exact ⟨by rw [all_take hk (by simp; omega)], q1⟩
  · obtain ⟨q1, hk⟩ := q
    exact ⟨by rw [hk], q1⟩
/-- the same for !=, told by what == would say -/
def RcNB (X : Cx) (n : Nat) (D : EqvB) : Prop :=
  ∀ (A : Around) (pins : List (Addr × Obj)) (s : Shared) (σ : St) (H : Hp) (x y : V) (u v : Value) (k : Bool), Sub X n A → Inv X pins σ H s → RelV x u → RelV y v → D x y H k →
    wpAny (model X.prog X.w) A (richCompare .NotEq u v) (fun r s' => r = .bool (!k) ∧ ∃ H', Inv X pins σ H' s' ∧ Ext H H') X.xe s
theorem rcNB_tup (hD : MonB D) (h : EqB X n D) : RcNB X (n + 1) (DTupB X.K D) := by
  intro A pins s σ H x y u v k sb I rx ry d
  obtain ⟨a, b, xs, ys, ks, rfl, rfl, ha, hb, hlen, hks, hp, rfl⟩ := d
  cases rx
  cases ry
  obtain ⟨its, r, e, z⟩ := I.tuple ha
  obtain ⟨its2, r2, e2, z2⟩ := I.tuple hb
  have l1 := r.length
  have l2 := r2.length
  have hsz : its.toArray.size = its2.toArray.size := by rw [List.size_toArray, List.size_toArray, ← l1, ← l2]; exact hlen
  refine GQ.rc_tupNB hsz sb.room.units0 (fun i s' => (∃ H', Inv X pins σ H' s' ∧ Ext H H') ∧ ∀ j, j < i → ks[j]? = some true) (fun s' => (∃ H', Inv X pins σ H' s' ∧ Ext H H') ∧ ks.all id = false) e e2 (fun i h1 h2 s' q => ?_) (fun s' q => ?_) (fun s' q => ?_) ⟨⟨H, I, Ext.rfl'⟩, fun j hj => absurd hj (Nat.not_lt_zero _)⟩
  · obtain ⟨⟨H1, I1, e1⟩, hk⟩ := q
    have h1' : i < its.length := by simpa using h1
    have h2' : i < its2.length := by simpa using h2
    have g1 : its[i]? = some its.toArray[i] := by rw [List.getElem?_eq_getElem h1'] <;> simp
    have g2 : its2[i]? = some its2.toArray[i] := by rw [List.getElem?_eq_getElem h2'] <;> simp
    have k1 : i < xs.length := by omega
    have k2 : i < ys.length := by omega
    have k3 : i < ks.length := by omega
    obtain ⟨uu, hu, ru⟩ := r.get (List.getElem?_eq_getElem k1)
    obtain ⟨vv, hv, rv⟩ := r2.get (List.getElem?_eq_getElem k2)
    rw [g1] at hu
    rw [g2] at hv
    rw [Option.some.inj hu, Option.some.inj hv]
    refine wpAny_mono (h A.in1 pins s' σ H1 _ _ uu vv ks[i] sb.in1 I1 ru rv (hD _ _ _ _ _ e1 (hp i _ _ _ (List.getElem?_eq_getElem k1) (List.getElem?_eq_getElem k2) (List.getElem?_eq_getElem k3)))) (fun rr s2 q2 => ?_) fun _ _ x => x
    obtain ⟨hr, H2, I2, e2'⟩ := q2
    have hki : ks[i]? = some rr := by rw [hr]; exact List.getElem?_eq_getElem k3
    cases rr with
    | true =>
      refine .inl ⟨rfl, ⟨H2, I2, e1.trans e2'⟩, fun j hj => ?_⟩
      rcases Nat.lt_succ_iff_lt_or_eq.mp hj with hj | rfl
      · exact hk j hj
      · exact hki
    | false =>
      refine .inr ⟨rfl, ⟨H2, I2, e1.trans e2'⟩, ?_⟩
      rw [List.all_eq_false]
      exact ⟨false, List.mem_of_getElem? hki, by decide⟩
  · obtain ⟨q1, hk⟩ := q
    exact ⟨by rw [all_take hk (by simp; omega)]; rfl, q1⟩
  · obtain ⟨q1, hk⟩ := q
    exact ⟨by rw [hk]; rfl, q1⟩
/-- x == y, x != y as expressions -/
def rEqB (D : EqvB) : R2 := fun x y H Q => ∃ k, D x y H k ∧ ∀ H', Ext H H' → Q (.bl k) H'
def rNeB (D : EqvB) : R2 := fun x y H Q => ∃ k, D x y H k ∧ ∀ H', Ext H H' → Q (.bl (!k)) H'
theorem op_eqB (h : RcB X n D) (hr : Room n X.A) : OpR X (compareOp .Eq) (rEqB D) := by
  intro pins s σ H x y v u Q I rx ry hq
  obtain ⟨k, d, q⟩ := hq
  show wpAny (model X.prog X.w) X.A (richCompare .Eq v u) (EP X pins σ Q) X.xe s
  refine wpAny_mono (h X.A pins s σ H x y v u k ⟨hr, rfl⟩ I rx ry d) (fun r s' z => ?_) fun _ _ x => x
  obtain ⟨hr', H', I', e⟩ := z
  subst hr'
  exact ⟨.bl k, H', I', rfl, q H' e⟩
theorem op_neB (h : RcNB X n D) (hr : Room n X.A) : OpR X (compareOp .NotEq) (rNeB D) := by
  intro pins s σ H x y v u Q I rx ry hq
  obtain ⟨k, d, q⟩ := hq
  show wpAny (model X.prog X.w) X.A (richCompare .NotEq v u) (EP X pins σ Q) X.xe s
  refine wpAny_mono (h X.A pins s σ H x y v u k ⟨hr, rfl⟩ I rx ry d) (fun r s' z => ?_) fun _ _ x => x
  obtain ⟨hr', H', I', e⟩ := z
  subst hr'
  exact ⟨.bl (!k), H', I', rfl, q H' e⟩
end
end L2

set_option Elab.async false
set_option linter.all false
set_option maxRecDepth 100000
set_option maxHeartbeats 4000000
/-! except A as e: .. except B as e: ..; classes made with keyword-only parameters -/
namespace L2
open PySem PySem.Spec PyProof.Rows
abbrev SuT := Addr → Value → Option Addr → TS
/-- behind a suite the i-th slot is empty -/
def dropAt (i : Nat) (D : Ends) : Ends := { nx := fun g J => D.nx (g.set i none) J, rt := D.rt, bk := fun g J => D.bk (g.set i none) J, ct := fun g J => D.ct (g.set i none) J }
def wManyA (K : PySem.W.Frag) (Wo : WX) (D : Ends) : List (Value × Nat × SuT) → WX
  | [] => Wo
  | (c, i, ts) :: r => fun cl d g J => ∃ y, PySem.W.exmOne K cl c = some y ∧ (y = true → ∀ q, J q = none → ts q cl d (dropAt i D) (g.set i (some (.ref q))) J) ∧ (y = false → wManyA K Wo D r cl d g J)
inductive HdsA (X : Cx) : List ExceptHandler → List (Value × Nat × SuT) → Prop
  | nil : HdsA X [] []
  | cons {x n : Str} {c : Value} {i : Nat} {ts : SuT} {b0 : Stmt} {su : List Stmt} {np pp : Pos} {hds : List ExceptHandler} {l : List (Value × Nat × SuT)} (hi : X.N[i]? = some n) (hl : X.env.kindOf n = some .local) (hc : Names X x c)
      (hsu : ∀ (q : Addr) (oq : Obj) (cl : Value) (d : Option Addr) (pn : List (Addr × Obj)), Zc cl d oq → (∃ us, oq.data = .fields us) → PSs (X.suite q ((q, oq) :: pn)) (b0 :: su) (ts q cl d)) (r : HdsA X hds l) :
      HdsA X (.ExceptHandler (some (.Name x np)) (some n) (b0 :: su) pp :: hds) ((c, i, ts) :: l)
section
variable {X : Cx} {bd : List Stmt} {hd0 : ExceptHandler} {hds : List ExceptHandler} {l : List (Value × Nat × SuT)} {pos : Pos} {tb : WX → TS} {Wo : WX}
theorem ps_try_manyA (hs : X.stack = X.env :: X.outer) (hf : X.env.frame = some X.env.locals) (hN : X.N.Nodup) (tk : Takes X Wo)
    (hb : ∀ (W : WX) (pn : List (Addr × Obj)) (xe : Value → Shared → Prop), Takes (X.tr pn xe) W → PassesOwn (model X.prog X.w) X.A X.env xe → PSs (X.tr pn xe) bd (tb W))
    (hh : HdsA X (hd0 :: hds) l) : PS X (.Try bd (hd0 :: hds) [] [] pos) (fun D g J => tb (wManyA X.K Wo D l) D g J) := by
  refine ⟨fun pins s0 g0 J0 D I0 h => ?_⟩
  have kk := I0.ok
  have hfr : X.A.frames = some (X.env :: X.outer) := by rw [kk.frames, hs]
  refine wpAny_Try_except (wpAny_mono ((hb (wManyA X.K Wo D l) (X.pn ++ pins) (fun u t1 => wpAny (model X.prog X.w) X.A (noteFrame u X.env) (fun _ t2 => wpAny (model X.prog X.w) X.A (setFlight u none) (fun _ t3 =>
    wpAny (model X.prog X.w) X.A (handleBy u X.env (hd0 :: hds)) (SP X pins D) X.xe t3) X.xe t2) X.xe t1) (fun u t1 xx => ?_) PassesOwn.looking).run [] s0 g0 J0 D (I0.toTry _) h) (fun fl t1 hsp => ?_) (fun _ _ z => z))
  · obtain ⟨q, B, sI, pns, g1, J1, cl, d, rfl, K1, nb, up, sky, na, os, ag, wx⟩ := xx
    have V : Inv X pins g1 J1 sI := K1.ofTry kk
    have sky2 : Sky B (X.env :: X.outer) q (Zc cl d) X.env.locals t1.heap := by rw [← hs]; exact sky
    show wpAny (model X.prog X.w) X.A (noteFrame (.ref q) X.env) _ _ _
    refine Sky.land Zc.steady hfr hf sky2 fun h3 f3 u3 => ?_
    have V3 : Inv X pins g1 J1 { t1 with heap := h3 } := V.landed nb f3.1 (up.trans u3) os ag
    obtain ⟨o3, v3, e3, z3, d3⟩ := f3.there
    have apart : ∀ {hh : Heap} {o : Obj} {us : Array Value}, hh.FunFrames B (X.env :: X.outer) → hh.get? q = some o → o.data = .fields us → q ∉ frs (X.env :: X.outer) := fun {hh o us} ff e dd hm => by
      obtain ⟨_, o', e', hnf⟩ := ff.mem hm
      rw [e] at e'
      cases e'
      exact hnf _ dd
    have np := apart f3.2.2.1 e3 d3
    have nL : q ≠ X.env.locals := fun z => np (List.mem_filterMap.mpr ⟨X.env, List.mem_cons_self, by rw [hf, z]⟩)
    have nF : q ∉ X.fs := fun hm => by
      obtain ⟨e, he, r⟩ := List.mem_filterMap.mp hm
      exact np (List.mem_filterMap.mpr ⟨e, List.mem_cons_of_mem _ he, r⟩)
    have S3 := V3.suite e3 d3 na nL nF
    have go : ∀ {hz : List ExceptHandler} {lz : List (Value × Nat × SuT)}, HdsA X hz lz → wManyA X.K Wo D lz cl d g1 J1 → wpAny (model X.prog X.w) X.A (handleBy (.ref q) X.env hz) (SP X pins D) X.xe { t1 with heap := h3 } := by
      intro hz lz hk
      induction hk with
      | nil =>
        intro wz
        refine wpAny_handleBy_nil ?_
        obtain ⟨_, _, _, oq, us, TB, oT, ts2, he, hq, hdd, h1, hr⟩ := id f3
        unfold PySem.passOn
        refine wpAny_bind (wpAny_field he hdd h1 ?_)
        rw [if_neg (show ¬ ((Value.ref TB == Value.none) = true) by simp)]
        have fin : wpAny (model X.prog X.w) X.A (setFlight (.ref q) X.env.frame) (fun _ t4 => wpAny (model X.prog X.w) X.A (throw (.ref q) : Sem Flow) (SP X pins D) X.xe t4) X.xe { t1 with heap := h3 } := by
          rw [hf]
          refine HandSPX.setFlight_upZ f3 fun h4 hh4 up4 => wpAny_throw (tk _ _ ?_)
          exact ⟨q, B, sI, pins, g1, J1, cl, d, rfl, V, nb, (up.trans u3).trans up4, .inr (.inr (by rw [hs]; exact hh4)), na, os, ag, wz⟩
        first | exact wpAny_bind (wpAny_pure (wpAny_bind fin)) | exact wpAny_bind fin
      | @cons x n c i ts b0 su np pp hds2 l2 hi hl hc hsu r ih =>
        intro wz
        obtain ⟨y, hy, yes, no⟩ := wz
        refine wpAny_handleBy_cons (codeAny_handlers_test ?_) (by intro z; cases z)
        have LT : PySem.W.Looks (model X.prog X.w) h3 (typeOf (.ref q)) cl := fun A Q E s k r => wpAny_typeOf_ref (k _ _ e3) (by rw [z3.1]; exact r)
        have LM := PySem.W.exm_one (M := model X.prog X.w) (V3.kIn) LT hy
        have tst : ∀ {Q E : Value → Shared → Prop}, Q c { t1 with heap := h3 } → wpAny (model X.prog X.w) (X.A.mark (some (.ref q))) (eval (.Name x np) X.env) Q E { t1 with heap := h3 } := fun {Q E} z => by
          obtain ⟨hg, hdbg, hm | ⟨hm, hv, hnn⟩⟩ := hc
          · exact ld_glob (X := X.suite q ((q, o3) :: (X.pn ++ pins))) S3 hg hm z hdbg
          · exact ld_blt (X := X.suite q ((q, o3) :: (X.pn ++ pins))) S3 hg hm hv z hnn hdbg
        refine tst (LM.here ?_)
        cases y with
        | true =>
          refine codeAny_handlers_suite_as (HandSPX.lands_againZ f3 fun h4 f4 u4 => ?_)
          have V4 : Inv X pins g1 J1 { t1 with heap := h4 } := V.landed nb f4.1 ((up.trans u3).trans u4) os ag
          obtain ⟨o4, v4, e4, z4, d4⟩ := f4.there
          have S4 := V4.suite e4 d4 na nL nF
          have hloc : Loc X.env.scope n := .inl hl
          refine store_ok (X := X.suite q ((q, o4) :: (X.pn ++ pins))) (v := .ref q) S4 hN hi hloc rfl (fun t5 S5 => ?_) (.inr hl)
          refine wpAny_mono ((hsu q o4 cl d (X.pn ++ pins) z4 ⟨_, d4⟩).run [] t5 _ J1 _ S5 (yes rfl q na)) (fun fl t6 sp => ?_) (fun _ _ z => False.elim z)
          have ends : ∀ {g6 : St} {J6 : Hp} {Q : Shared → Prop}, Inv (X.suite q ((q, o4) :: (X.pn ++ pins))) [] g6 J6 t6 → (∀ t7, Inv X pins (g6.set i none) J6 t7 → Q t7) →
              wpAny (model X.prog X.w) X.A (do bindName X.env n .none; unbindBehindTheSuite X.env n pp) (fun _ t7 => Q t7) X.xe t6 := fun {g6 J6 Q} S6 hq => gone_ok (S6.unsuite kk) hN hi hl hq
          cases fl with
          | next =>
            obtain ⟨g6, J6, S6, r6⟩ := sp
            exact ends S6 fun t7 V7 => ⟨_, _, V7, r6⟩
          | brk =>
            obtain ⟨g6, J6, S6, r6⟩ := sp
            exact ends S6 fun t7 V7 => ⟨_, _, V7, r6⟩
          | cont =>
            obtain ⟨g6, J6, S6, r6⟩ := sp
            exact ends S6 fun t7 V7 => ⟨_, _, V7, r6⟩
          | ret u =>
            obtain ⟨w6, g6, J6, S6, r6, y6⟩ := sp
            exact ends S6 fun t7 V7 => ⟨_, _, _, V7, r6, y6⟩
        | false =>
          show wpAny _ X.A (handleBy (.ref q) X.env hds2) _ _ _
          exact ih (no rfl)
    exact go hh wx
  · cases fl with
    | next =>
      obtain ⟨g6, J6, V6, r⟩ := hsp
      exact wpAny_execs_nil ⟨g6, J6, V6.ofTry kk, r⟩
    | brk =>
      obtain ⟨g6, J6, V6, r⟩ := hsp
      exact ⟨g6, J6, V6.ofTry kk, r⟩
    | cont =>
      obtain ⟨g6, J6, V6, r⟩ := hsp
      exact ⟨g6, J6, V6.ofTry kk, r⟩
    | ret u =>
      obtain ⟨v6, g6, J6, V6, rv, r⟩ := hsp
      exact ⟨v6, g6, J6, V6.ofTry kk, rv, r⟩
end
/-! ### C(e, .., k = v, ..), keyword-only parameters without defaults, all written in their order -/
section
variable {K : PySem.W.Frag} {x qual : Str} {st : Stmt} {f : Addr} {fd : FuncData} {ps ks : List Str} {n : Nat}
abbrev KBa (K : PySem.W.Frag) (fd : FuncData) (ps : List Str) (n : Nat) (ks : List Str) : Prop := KBn K fd ps n ks (fun us ws => us ++ ws) (fun vs zs => vs ++ zs)
theorem Fun.kba (F : Fun K x qual st f fd)
    (h : ∀ (kV doc pm : Value) (an : Option Addr) (cdv ct : Value) (us ws : List Value), us.length = n → ws.length = ks.length → bindArgs (PySem.W.fnOf x qual (defArgs st) (defBody st) (defScope st) .none kV doc pm an cdv ct) ⟨us, ks.zip ws⟩ = pure (ps.zip (us ++ ws))) : KBa K fd ps n ks := by
  obtain ⟨_, _, kV, doc, pm, an, cdv, ct, _, rfl, _, _⟩ := F.ex
  exact ⟨fun s us ws _ l1 l2 => .of_eq (h kV doc pm an cdv ct us ws l1 l2), fun r1 r2 => r1.append r2⟩
end
structure OwnCK (P : Program) (w : World) (K : PySem.W.Frag) (mg : Str → Option Value) (base : Heap) (CX : CXT) (x : Str) (C : Addr) (k : Nat) (ps : List Str) (n : Nat) (ks : List Str) (sp : Sp) : Prop where
  ex : ∃ (f : Addr) (fd : FuncData), FnOk P w K mg base CX k f fd ps sp ∧ Mk K C f ∧ mg x = some (.ref C) ∧ KBa K fd ps (n + 1) ks
section
variable {X : Cx} {CX : CXT} {k n : Nat} {f C : Addr} {fd : FuncData} {ps ks : List Str} {sp : Sp} {E : St → XK} {x : Str} {p pos : Pos} {e : Expr} {es : List Expr} {kws : List Keyword} {t tk : TA} {W : WX}
/-- the errors wished at the slots -/
def tMakeKS (C : Addr) (n m : Nat) (sp : Sp) (E : St → XK) (t tk : TA) : TE := fun g J Q => t g J fun vs J1 => tk g J1 fun zs J2 => vs.length = n ∧ zs.length = m ∧ ∀ o dx, J2 o = none → J2 dx = none → dx ≠ o →
  sp (.ref o :: vs ++ zs) (upd (upd J2 dx (.own o)) o (.ins C dx [])) (fun v J3 => v = .non ∧ Q (.ref o) J3) (fun cl d J3 => E g cl d J3)
theorem run_makeKS {pins : List (Addr × Obj)} {g : St} {J : Hp} {s : Shared} {Q : VK} {us ws : List Value} {vs zs : List V} (M : Mk X.K C f) (F : FnOk X.prog X.w X.K X.mg X.base CX k f fd ps sp) (hr : Room (k + 1) X.A) (hb : KBa X.K fd ps (n + 1) ks) (hx : PassesAt CX X g (E g))
    (I : Inv X pins g J s) (r : Vals vs us) (rz : Vals zs ws) (l1 : vs.length = n) (l2 : zs.length = ks.length)
    (h : ∀ o dx, J o = none → J dx = none → dx ≠ o → sp (.ref o :: vs ++ zs) (upd (upd J dx (.own o)) o (.ins C dx [])) (fun v J2 => v = .non ∧ Q (.ref o) J2) (E g)) :
    wpAny (model X.prog X.w) X.A (call (.ref C) us (ks.zip ws)) (EP X pins g Q) X.xe s := by
  have want := h (s.heap.objs.size + 1) s.heap.objs.size (I.hok.fresh (Nat.le_succ _)) (I.hok.fresh (Nat.le_refl _)) (Nat.ne_of_lt (Nat.lt_succ_self _))
  have I2 := Inv.made (C := C) I
  have m1 : Vals (V.ref (s.heap.objs.size + 1) :: vs) (Value.ref (s.heap.objs.size + 1) :: us) := .cons rfl r
  have m2 := hb.rel m1 rz
  have k1 : (Value.ref (s.heap.objs.size + 1) :: us).length = n + 1 := by rw [List.length_cons, ← r.length, l1]
  refine wpAny_call (make_map (f := f) I.kIn M.makes M.init (beq_iff_eq.mp M.fn) (codeAny_mono (F.run _ X.stack _ _ ⟨Value.ref (s.heap.objs.size + 1) :: us, ks.zip ws⟩ (Value.ref (s.heap.objs.size + 1) :: us ++ ws) _ _ (E g) (hr.make C us (ks.zip ws))
    (I2.env0.make C us (ks.zip ws)) (hb.to _ (Value.ref (s.heap.objs.size + 1) :: us) ws I2.kIn k1 (rz.length.symm.trans l2)) m2 want) fun z t1 hz => ?_))
  cases z with
  | error u => exact hx pins _ _ u t1 I2 hz
  | ok fl =>
    cases fl with
    | ret u =>
      obtain ⟨v, J3, I3, rv, ev, q3⟩ := I2.after hz
      subst ev
      exact ⟨rv, ⟨V.ref (s.heap.objs.size + 1), J3, I3, rfl, q3⟩⟩
    | next => exact False.elim hz
    | brk => exact False.elim hz
    | cont => exact False.elim hz
theorem pe_newKS (O : OwnCK X.prog X.w X.K X.mg X.base (L2.CX X.prog X.w) x C k ps n ks sp) (hr : Room (k + 1) X.A) (tw : Takes X W) (ha : PA X (e :: es) t) (hkw : PK X kws tk) (hg : Gl X x := by rfl)
    (hall : (backToKw pos (keywordEach kws X.env)).all (·.1.isSome) = true := by rfl) (hks : (backToKw pos (keywordEach kws X.env)).filterMap (·.1) = ks := by rfl) (hdb : (x == ("__debug__" : Str)) = false := by decide)
    (he : starEach (e :: es) X.env = (false, eval e X.env) :: starEach es X.env := by rfl) (hpl : ((backTo pos (starEach (e :: es) X.env)).any (·.1) || (backToKw pos (keywordEach kws X.env)).any (·.1.isNone)) = false := by rfl) :
    PE X (.Call (.Name x p) (e :: es) kws pos) (tMakeKS C n ks.length sp (WE W) t tk) := by
  obtain ⟨f, fd, F, M, hm, hb⟩ := O.ex
  refine ⟨fun pins s g J Q I h => wpAny_Call_Name_kw (ld_glob I hg hm ?_ hdb)⟩
  refine PySem.W.callWith_KW (h₀ := X.base) I.ok.mod.kin M.kp hall (thn (ha.run pos pins s g J _ I h) fun us s1 ⟨vs, J1, I1, r, q⟩ => ?_) hpl he
  refine thn (hkw.run pos pins s1 g J1 _ I1 q) fun ws s2 ⟨zs, J2, I2, rz, l1, l2, q2⟩ => ⟨I2.kIn, ?_⟩
  rw [hks]
  exact run_makeKS M F hr hb (passAt tw g) I2 r rz l1 l2 q2
end
section
variable {X : Cx} {e : Expr} {f : Str} {pos : Pos} {ta : TE}
/-- e.f where the context is not known yet -/
theorem pe_fldA (he : PE X e ta) (hb : attributeBase e f X.env (eval e X.env) = eval e X.env := by rfl) : PE X (.Attribute e f pos) (tFld X.K ta f) := pe_fld he hb
end
end L2

set_option Elab.async false
set_option maxRecDepth 100000
set_option maxHeartbeats 4000000
/-! slices and sums of tuples, whichever object it is -/
namespace L2
open PySem PySem.Spec PyProof.Rows
section
variable {X : Cx}
theorem cut_whole {xs : List V} {lo hi : Option Int} (h : HT.sIx xs.length 0 lo = 0 ∧ HT.sIx xs.length xs.length hi = xs.length) : cutV xs lo hi = xs := by
  unfold cutV
  rw [h.1, h.2]
  simp
/-- a slice of a tuple, whichever object it is -/
def rSlE : V → Option Int → Option Int → Hp → VK → Prop := fun x lo hi H Q => ∃ a xs, x = .ref a ∧ H a = some (.tup xs) ∧ ∀ p H', Ext H H' → H' p = some (.tup (cutV xs lo hi)) → Q (.ref p) H'
theorem sl_tupE : SlR X rSlE := by
  intro pins s σ H x v vl vu lo hi sl Q I rx hs pl pu h
  obtain ⟨a, xs, rfl, ha, q⟩ := h
  exact sl_tupA pins s σ H _ v vl vu lo hi sl Q I rx hs pl pu ⟨a, xs, rfl, SqT.of ha, fun hw => q a H Ext.rfl' (by rw [cut_whole hw]; exact ha), fun _ p hp => q p _ (Ext.upd hp) upd_same⟩
/-- the sum of two tuples, whichever object it is -/
def rCatE : R2 := fun x y H Q => ∃ a b xs ys, x = .ref a ∧ y = .ref b ∧ H a = some (.tup xs) ∧ H b = some (.tup ys) ∧ xs.length + ys.length ≤ sizeLine ∧ ∀ p H', Ext H H' → H' p = some (.tup (xs ++ ys)) → Q (.ref p) H'
theorem op_catE : OpR X (binaryOp .Add) rCatE := by
  intro pins s σ H x y v u Q I rx ry h
  obtain ⟨a, b, xs, ys, rfl, rfl, ha, hb, hz, q⟩ := h
  refine op_catA pins s σ H _ _ v u Q I rx ry ⟨a, b, xs, ys, rfl, rfl, SqT.of ha, SqT.of hb, hz, fun e => q b H Ext.rfl' ?_, fun _ e => q a H Ext.rfl' ?_, fun _ _ p hp => q p _ (Ext.upd hp) upd_same⟩
  · subst e
    exact hb
  · subst e
    rw [List.append_nil]
    exact ha
end
end L2

set_option Elab.async false
set_option linter.all false
set_option maxRecDepth 100000
set_option maxHeartbeats 4000000
/-! one of two readings; tuple.index of flat items; an own __contains__ -/
namespace PySem.W
open PySem PySem.Calls PyProof.Rows
section
variable {prog : Program} {w : World} {A : Around} {E : Value → Shared → Prop} {s : Shared} {K : Frag} {x C f : Addr} {ox : Obj} {od : Option Obj}
theorem contains_fn {v : Value} {Q : Bool → Shared → Prop} (X : K.In s.heap) (I : InstAt s.heap x ox C od) (hs : findIn K (.ref C) "__contains__" = some (some (.ref f))) (hf : isFn K (.ref f) = true)
    (h : wpAny (model prog w) A (call (.ref f) [.ref x, v]) (fun r s' => ∃ b, r = .bool b ∧ Q b s') E s) : wpAny (model prog w) A (contains (.ref x) v) Q E s := by
  unfold contains
  refine wpAny_holding ?_
  have e1 : stdlibNamesSay? (.ref x) v = none := rfl
  rw [e1]
  refine wpAny_bind (wpAny_bind (I.type.here ((looks_findIn X hs).here ?_)))
  show wpAny _ _ (if (some (Value.ref f) == some Value.none) = true then _ else _) _ _ _
  rw [if_neg (by simp)]
  refine wpAny_bind (m := callSpecialUnlessNone? (.ref x) _ _ _) ?_
  unfold callSpecialUnlessNone?
  refine wpAny_bind (wpAny_bind (I.type.here ((looks_findIn X hs).here ?_)))
  refine wpAny_holding (wpAny_bind ((bind_fn X _ (beq_iff_eq.mp hf)).here ?_))
  show wpAny _ _ (if (Value.ref f == Value.none) = true then _ else _) _ _ _
  rw [if_neg (by simp)]
  refine wpAny_bind (wpAny_mono h (fun r s' z => ?_) fun _ _ z => z)
  obtain ⟨b, rfl, q⟩ := z
  exact wpAny_pure (wpAny_truthy_bool q)
end
end PySem.W
namespace L2
open PySem PySem.Spec PyProof.Rows
section
variable {X : Cx}
theorem pe_either {ex : Expr} {t1 t2 : TE} (h1 : PE X ex t1) (h2 : PE X ex t2) : PE X ex (fun g J Q => t1 g J Q ∨ t2 g J Q) := ⟨fun pins s g J Q I h => h.elim (fun z => h1.run pins s g J Q I z) (fun z => h2.run pins s g J Q I z)⟩
def rIndexT (K : PySem.W.Frag) : V → List V → Hp → VK → Prop := fun o vs J Q => ∃ (p : Addr) (ts : List V) (e : V) (n : Nat) (c : V), o = V.ref p ∧ vs = [e] ∧ SqT K J p ts ∧ flatV e = true ∧ ts.all flatV = true ∧ ts[n]? = some c ∧ eqV c e = true ∧
  (∀ (m : Nat) (c' : V), m < n → ts[m]? = some c' → eqV c' e = false) ∧ Q (.int (n : Nat)) J
theorem mt_tupIndex : MtR X "tuple.index" (rIndexT X.K) := by
  intro pins s g J o vs v us Q I ro rvs h
  obtain ⟨p, ts, e, n, c, rfl, rfl, ht, fe, fts, hc, hce, no, q⟩ := h
  cases ro
  cases rvs with
  | cons re rt =>
    rename_i ue ut
    cases rt
    obtain ⟨its, rv, ⟨⟨cls, dd, dt, sl⟩, ho, hcl, nn, hd⟩, hz⟩ := I.tuple ht
    simp only at hcl hd
    subst hcl hd
    obtain ⟨u, hu, ru⟩ := rv.get hc
    obtain ⟨nl, ne⟩ := List.getElem?_eq_some_iff.mp hu
    have hvl := rv.length
    have hn : n < its.toArray.size := by simpa using nl
    refine call_meets PySem.F.slot_tuple_index ⟨_, ho, rfl⟩ PySem.F.entry_tuple_index (PySem.F.args_tuple_index_2 _ _) (TI.tuple_indexAt p its.toArray nn dd sl ue (eqU e) n hn ?_ ?_)
      ⟨ho, fun w hw => mem_eqAt re fe rv fts w (by simpa using hw), ?_⟩
    · have e1 : its.toArray[n] = u := by simpa using ne
      rw [e1, eqU_of ru (flat_at fts hc)]
      exact hce
    · intro m hm hmn
      have ml : m < its.length := by simpa using hm
      have mt : m < ts.length := by omega
      have gm : ts[m]? = some ts[m] := List.getElem?_eq_getElem mt
      obtain ⟨u2, hu2, ru2⟩ := rv.get gm
      obtain ⟨_, me⟩ := List.getElem?_eq_some_iff.mp hu2
      have e2 : its.toArray[m] = u2 := by simpa using me
      rw [e2, eqU_of ru2 (flat_at fts gm)]
      exact no m _ hmn gm
    · exact ⟨.int (n : Nat), J, I.tok _, ⟨_, rfl⟩, q⟩
end
section
variable {X : Cx} {CX : CXT} {k : Nat} {f C : Addr} {fd : FuncData} {ps : List Str} {sp : Sp}
/-- x in o, o an instance of the class at C with an own __contains__ -/
def rInO (C : Addr) (sp : Sp) : R2 := fun x y H Q => ∃ a dx fs, y = .ref a ∧ H a = some (.ins C dx fs) ∧ sp [y, x] H (fun v H' => ∃ b, v = .bl b ∧ Q (.bl b) H') E0
theorem op_inO (F : FnOk X.prog X.w X.K X.mg X.base CX k f fd ps sp) (hs : PySem.W.findIn X.K (.ref C) "__contains__" = some (some (.ref f))) (hf : PySem.W.isFn X.K (.ref f) = true) (hr : Room k X.A) (hb : Binds X.K fd ps []) (hx : Passes CX X E0) : OpR X (compareOp .In) (rInO C sp) := by
  intro pins s g J x y v u Q I rx ry hq
  obtain ⟨a, dx, fs, rfl, ha, q⟩ := hq
  cases (show u = Value.ref a from ry)
  obtain ⟨mA, O, _⟩ := ins_get I.hok ha
  obtain ⟨od, O, _⟩ := O.look
  show wpAny (model X.prog X.w) X.A (contains (.ref a) v >>= fun b => pure (.bool b)) (EP X pins g Q) X.xe s
  refine wpAny_bind (PySem.W.contains_fn I.kIn O hs hf (wpAny_mono (run_at (vs := [.ref a, x]) F hr rfl hb hx I (.cons rfl (.cons rx .nil)) q) (fun r s' z => ?_) fun _ _ e => e))
  obtain ⟨w', J', I', rv, b, rfl, q'⟩ := z
  cases rv
  exact ⟨b, rfl, wpAny_pure ⟨.bl b, J', I', rfl, q'⟩⟩
theorem inO {m : Nat} (O : OwnM X.prog X.w X.K X.mg X.base CX C "__contains__" m ps sp) (hr : Room m X.A) (hx : Passes CX X E0) : OpR X (compareOp .In) (rInO C sp) := by
  obtain ⟨f, fd, F, M, hi, hb⟩ := O.ex
  exact op_inO F M.at_ hi hr hb hx
end
end L2

set_option Elab.async false
set_option maxRecDepth 100000
set_option maxHeartbeats 4000000
/-! ranges with a step made lists and tuples; zip of two tuples in a comprehension; a def that is held by a name -/
namespace L2
open PySem PySem.Spec PyProof.Rows
theorem pss_dead {X : Cx} {ss : List Stmt} : PSs X ss (fun _ _ _ => False) := ⟨fun _ _ _ _ _ _ h => h.elim⟩
/-- the def at f keeps its promise -/
structure OwnAt (P : Program) (w : World) (K : PySem.W.Frag) (mg : Str → Option Value) (base : Heap) (CX : CXT) (f : Addr) (k : Nat) (ps : List Str) (sp : Sp) : Prop where
  ex : ∃ fd, FnOk P w K mg base CX k f fd ps sp ∧ PySem.W.keepIn K (.ref f) = true ∧ Binds K fd ps []
theorem Own.at_ {P : Program} {w : World} {K : PySem.W.Frag} {mg : Str → Option Value} {base : Heap} {CX : CXT} {x : Str} {k : Nat} {ps : List Str} {sp : Sp} (O : Own P w K mg base CX x k ps sp) : ∃ f, mg x = some (.ref f) ∧ OwnAt P w K mg base CX f k ps sp := by
  obtain ⟨f, fd, F, hm, hk, hb⟩ := O.ex
  exact ⟨f, hm, fd, F, hk, hb⟩
section
variable {X : Cx} {CX : CXT} {x : Str} {k i : Nat} {f : Addr} {ps : List Str} {sp : Sp} {e : Expr} {es : List Expr} {t : TA} {p pos : Pos}
/-- the i-th slot holds f, which is called; W is wished for what it raises -/
def tCallVS (i : Nat) (f : Addr) (sp : Sp) (E : St → XK) (t : TA) : TE := fun σ H Q => σ[i]? = some (some (.ref f)) ∧ t σ H fun vs H1 => sp vs H1 Q (E σ)
theorem pe_ownVS {W : WX} (O : OwnAt X.prog X.w X.K X.mg X.base (L2.CX X.prog X.w) f k ps sp) (hr : Room k X.A) (tk : Takes X W) (hN : X.N[i]? = some x) (hv : Vis X.env.scope x) (ha : PA X (e :: es) t)
    (hdb : (x == ("__debug__" : Str)) = false := by decide) (hcd : (x == ("__classdict__" : Str)) = false := by decide)
    (he : starEach (e :: es) X.env = (false, eval e X.env) :: starEach es X.env := by rfl) (hpl : (backTo pos (starEach es X.env)).any (·.1) = false := by rfl) : PE X (.Call (.Name x p) (e :: es) [] pos) (tCallVS i f sp (WE W) t) := by
  obtain ⟨fd, F, hk, hb⟩ := O.ex
  refine ⟨fun pins s σ H Q I h => ?_⟩
  obtain ⟨hσ, h⟩ := h
  refine PyProof.Rows.Call_ (thn ((pe_var (pos := p) hN hv hdb hcd).run pins s σ H (fun y H1 => y = .ref f ∧ H1 = H) I ⟨_, hσ, rfl, rfl⟩) fun u s1 ⟨y, H1, I1, rx, ex, eh⟩ => ?_) rfl
  subst ex eh
  obtain rfl : u = Value.ref f := rx
  refine PySem.W.callWith_K (h₀ := X.base) I1.ok.mod.kin hk (thn (ha.run pos pins s1 σ H1 _ I1 h) fun us s2 ⟨vs, H2, I2, r, q⟩ => ⟨I2.kIn, ?_⟩) he hpl
  exact run_fnSD (us := us) (vs := vs) F hr hb .nil (passAt tk σ) I2 r (by rw [List.append_nil]; exact q)
end
/-! zip of two tuples -/
section
variable {K : PySem.W.Frag} {a b : Addr} {xs ys : List V}
theorem walk_zipT {n : Nat} (hn : n = min xs.length ys.length) : Walk (RZ.ItzT K a b) n (fun H => SqT K H a xs ∧ SqT K H b ys) (YPair (fun i => xs[i]?) (fun i => ys[i]?)) := by
  refine ⟨fun i _ hi q => ⟨xs, ys, xs[i]'(by omega), ys[i]'(by omega), q.1, q.2, List.getElem?_eq_getElem (by omega), List.getElem?_eq_getElem (by omega)⟩, fun _ q => ⟨xs, ys, q.1, q.2, by omega⟩, fun i H v H' _ q y => ?_⟩
  obtain ⟨T, x, y, e1, e2, e3, h1, h2⟩ := y
  exact ⟨T, x, y, e1, e2, e3, h1 xs q.1, h2 ys q.2⟩
end
/-! ranges with a step -/
section
variable {X : Cx}
def PRg3 (X : Cx) (e : Expr) (t : St → Hp → (Int → Int → Int → Hp → Prop) → Prop) : Prop :=
  ∀ (pins : List (Addr × Obj)) (s : Shared) (σ : St) (H : Hp) (Q : Int → Int → Int → Hp → Prop), Inv X pins σ H s → t σ H Q →
    wpAny (model X.prog X.w) X.A (eval e X.env) (fun x s' => ∃ r a b c t u v H', x = Value.ref r ∧ IsRange s'.heap r a b c t u v ∧ Inv X pins σ H' s' ∧ Q a b c H') X.xe s
def tRg3 (t : TA) (σ : St) (H : Hp) (Q : Int → Int → Int → Hp → Prop) : Prop := t σ H fun vs H1 => ∃ a b c, vs = [.int a, .int b, .int c] ∧ c ≠ 0 ∧ (-(2 ^ 62) ≤ a ∧ a < 2 ^ 62 ∧ -(2 ^ 62) ≤ b ∧ b < 2 ^ 62 ∧ c.natAbs < 1073741824) ∧ Q a b c H1
end
end L2

set_option Elab.async false
set_option maxRecDepth 100000
set_option maxHeartbeats 4000000
/-! comprehensions over ranges and over zip of two tuples, told by the place; what is tested and made only adds to the heap -/
namespace L2
open PySem PySem.Spec PyProof.Rows
/-- a comprehension's turns -/
abbrev LcGo (J : It) (g : TG) (tt : TT) (te : TE) (vs : List Nat) (σ : St) (H1 : Hp) (D : Addr) (Qd : Hp → Prop) : Prop :=
  ∃ W : Nat → Nat → Hp → Prop, (∃ m, W 0 m (upd H1 D (.lst []))) ∧ ∀ i m H, W i m H →
    (J.stop i H ∧ Qd H) ∨ (J.go i H ∧ ∃ Nx : Hp → Prop, (∀ H', Nx H' → ∃ m', m' < m ∧ W (i + 1) m' H') ∧ ∀ x H', J.yld i H x H' → g x (wipe σ vs) H' fun σ2 H2 => wipe σ2 vs = wipe σ vs ∧ tt σ2 H2 fun b H3 =>
      if b = true then te σ2 H3 fun y H4 => ∃ acc, H4 D = some (.lst acc) ∧ acc.length < sizeLine ∧ Nx (upd H4 D (.lst (acc ++ [y]))) else Nx H3)
theorem range_snoc (n : Nat) : List.range (n + 1) = List.range n ++ [n] := List.range_succ
section
variable {K : PySem.W.Frag} {σ : St} {H : Hp} {te : TE} {tt : TT} {vs : List Nat}
theorem lc_turn {f : Nat → V} {b : Nat → Bool} {D : Addr} {i n : Nat} {σ2 : St} {H' : Hp} (hD : H D = none) (hz : n < sizeLine) (hi : i < n) (hw : wipe σ2 vs = wipe σ vs) (e : Ext H H') (hl : H' D = some (.lst (((List.range i).filter b).map f)))
    (ht : ∀ Q : Bool → Hp → Prop, (∀ H'', Ext H' H'' → Q (b i) H'') → tt σ2 H' Q) (he : b i = true → ∀ H3, Ext H' H3 → ∀ Q : VK, (∀ H'', Ext H3 H'' → Q (f i) H'') → te σ2 H3 Q) :
    wipe σ2 vs = wipe σ vs ∧ tt σ2 H' fun b' H3 => if b' = true then te σ2 H3 fun y H4 => ∃ acc, H4 D = some (.lst acc) ∧ acc.length < sizeLine ∧ (Ext H (upd H4 D (.lst (acc ++ [y]))) ∧ upd H4 D (.lst (acc ++ [y])) D = some (.lst (((List.range (i + 1)).filter b).map f)))
      else (Ext H H3 ∧ H3 D = some (.lst (((List.range (i + 1)).filter b).map f))) := by
  refine ⟨hw, ht _ fun H3 e3 => ?_⟩
  have hl3 := e3 _ _ hl
  cases hb : b i with
  | true =>
    refine iteT (he hb H3 e3 _ fun H4 e4 => ⟨_, e4 _ _ hl3, ?_, ext_mut ((e.trans e3).trans e4) hD, ?_⟩)
    · rw [List.length_map]
      refine Nat.lt_of_le_of_lt (Nat.le_trans (List.length_filter_le _ _) ?_) hz
      rw [List.length_range]
      omega
    · rw [upd_same, range_snoc, List.filter_append, List.map_append]
      simp [hb]
  | false =>
    refine iteF ⟨e.trans e3, ?_⟩
    rw [hl3, range_snoc, List.filter_append, List.map_append]
    simp [hb]
theorem lc_rgR {Qd : Addr → Hp → Prop} {lo : Int} {n j : Nat} {f : Nat → V} {b : Nat → Bool} (hz : n < sizeLine) (hw : ∀ x, wipe ((wipe σ vs).set j (some x)) vs = wipe σ vs)
    (ht : ∀ i, i < n → ∀ H', Ext H H' → ∀ Q : Bool → Hp → Prop, (∀ H'', Ext H' H'' → Q (b i) H'') → tt ((wipe σ vs).set j (some (.int (lo + i)))) H' Q)
    (he : ∀ i, i < n → b i = true → ∀ H', Ext H H' → ∀ Q : VK, (∀ H'', Ext H' H'' → Q (f i) H'') → te ((wipe σ vs).set j (some (.int (lo + i)))) H' Q)
    (q : ∀ D H', H D = none → Ext H H' → H' D = some (.lst (((List.range n).filter b).map f)) → Qd D H') : ∀ D, H D = none → LcGo (Itr lo n) (gName j) tt te vs σ H D (Qd D) := fun D hD =>
  lc_range (fun i H' => Ext H H' ∧ H' D = some (.lst (((List.range i).filter b).map f))) ⟨Ext.upd hD, upd_same⟩ (fun i H' hi pv => lc_turn hD hz hi (hw _) pv.1 pv.2 (ht i hi H' pv.1) fun hb H3 e3 => he i hi hb H3 (pv.1.trans e3)) (fun H' pv => q D H' hD pv.1 pv.2)
theorem lc_zipR {Qd : Addr → Hp → Prop} {a b2 : Addr} {xs ys : List V} {n i1 i2 : Nat} {f : Nat → V} {b : Nat → Bool} (hx : SqT K H a xs) (hy : SqT K H b2 ys) (hn : n = min xs.length ys.length) (hz : n < sizeLine)
    (hw : ∀ x y, wipe (((wipe σ vs).set i1 (some x)).set i2 (some y)) vs = wipe σ vs)
    (ht : ∀ i x y, i < n → xs[i]? = some x → ys[i]? = some y → ∀ H', Ext H H' → ∀ Q : Bool → Hp → Prop, (∀ H'', Ext H' H'' → Q (b i) H'') → tt (((wipe σ vs).set i1 (some x)).set i2 (some y)) H' Q)
    (he : ∀ i x y, i < n → xs[i]? = some x → ys[i]? = some y → b i = true → ∀ H', Ext H H' → ∀ Q : VK, (∀ H'', Ext H' H'' → Q (f i) H'') → te (((wipe σ vs).set i1 (some x)).set i2 (some y)) H' Q)
    (q : ∀ D H', H D = none → Ext H H' → H' D = some (.lst (((List.range n).filter b).map f)) → Qd D H') : ∀ D, H D = none → LcGo (RZ.ItzT K a b2) (gTup K 2 (gCons (gName i1) (gCons (gName i2) gNil))) tt te vs σ H D (Qd D) := fun D hD => by
  refine lc_it (walk_zipT (K := K) (a := a) (b := b2) (xs := xs) (ys := ys) hn) (fun i H' => Ext H H' ∧ H' D = some (.lst (((List.range i).filter b).map f))) ⟨Ext.upd hD, upd_same⟩ (fun i H' _ pv => ⟨hx.ext pv.1, hy.ext pv.1⟩) (fun i v H' H'' hi pv y => ?_) (fun H' pv => q D H' hD pv.1 pv.2)
  obtain ⟨T, x, y, rfl, hT, rfl, h1, h2⟩ := y
  have eT := Ext.upd (o := .tup [x, y]) hT
  refine ⟨T, [x, y], rfl, SqT.of upd_same, rfl, x, [y], rfl, y, [], rfl, rfl, ?_⟩
  exact lc_turn hD hz hi (hw _ _) (pv.1.trans eT) (eT _ _ pv.2) (ht i x y hi h1 h2 _ (pv.1.trans eT)) fun hb H3 e3 => he i x y hi h1 h2 hb H3 ((pv.1.trans eT).trans e3)
end
end L2

set_option Elab.async false
set_option maxRecDepth 100000
set_option maxHeartbeats 4000000
/-! rules with the kit's own part named, for what stands within a comprehension -/
namespace L2
open PySem PySem.Spec PyProof.Rows
section
variable {X : Cx} {K : PySem.W.Frag}
theorem ix_tupK (h : X.K = K) : IxR X (rIxT K) := by
  subst h
  exact ix_tup
theorem ix_listK (h : X.K = K) : IxR X (rIxL K) := by
  subst h
  exact ix_list
theorem cr_maxK (h : X.K = K) (hc : X.calm = true) : CallR X (.builtin "max") (rMax K) := by
  subst h
  exact cr_max hc
theorem cr_minK (h : X.K = K) (hc : X.calm = true) : CallR X (.builtin "min") (rMin K) := by
  subst h
  exact cr_min hc
theorem pe_fldK {e : Expr} {ta : TE} {f : Str} {pos : Pos} (h : X.K = K) (he : PE X e ta) (hb : attributeBase e f X.env (eval e X.env) = eval e X.env := by rfl) : PE X (.Attribute e f pos) (tFld K ta f) := by
  subst h
  exact pe_fld he hb
def iListK (K : PySem.W.Frag) (tl : TE) : TI := fun σ H R => tl σ H fun x H1 => ∃ a, x = .ref a ∧ (∃ xs, SqL K H1 a xs) ∧ R (Itl K a) H1
theorem pi_listK {tg l : Expr} {tl : TE} (h : X.K = K) (hl : PE X l tl) : PI X tg l (iListK K tl) := by
  subst h
  exact pi_list hl
def rTupOfK (K : PySem.W.Frag) : List V → Hp → VK → Prop := fun xs H Q => ∃ p ys, xs = [.ref p] ∧ ((SqL K H p ys ∧ ∀ l, H l = none → Q (.ref l) (upd H l (.tup ys))) ∨ (SqT K H p ys ∧ Q (.ref p) H))
theorem call_tuple_ofK (h : X.K = K) : CallR X (.type "tuple") (rTupOfK K) := by
  subst h
  exact call_tuple_of
def rListOfK (K : PySem.W.Frag) : List V → Hp → VK → Prop := fun xs H Q => ∃ p ys, xs = [.ref p] ∧ (SqL K H p ys ∨ SqT K H p ys) ∧ ∀ l, H l = none → Q (.ref l) (upd H l (.lst ys))
theorem call_list_ofK (h : X.K = K) : CallR X (.type "list") (rListOfK K) := by
  subst h
  exact call_list_of
end
end L2

set_option Elab.async false
set_option maxRecDepth 100000
set_option maxHeartbeats 4000000
/-! list(zip(a, b)) of two lists -/
namespace PySem
theorem zip_no_len : typeLookup (Value.type "zip") (Str.ofString "__len__") = pure none := am_miss_of_fast (by decide +kernel)
theorem zip_no_hint : typeLookup (Value.type "zip") (Str.ofString "__length_hint__") = pure none := am_miss_of_fast (by decide +kernel)
/-- what has been given out -/
structure ZGiven (h : Heap) (lo : Addr) (acc : Array Value) (xs ys : Array Value) (i : Nat) (as : List Addr) : Prop where
  acc : acc.toList = as.map Value.ref
  len : as.length = i
  rise : List.Pairwise (· < ·) as
  above : ∀ a ∈ as, lo < a
  below : ∀ a ∈ as, a < h.objs.size
  pairs : ∀ (j : Nat) (a : Addr), as[j]? = some a → ∃ x y, xs[j]? = some x ∧ ys[j]? = some y ∧ IsPair h a x y
/-- how the zip stands -/
structure ZSt (h : Heap) (z TI TO i1 i2 l1 l2 : Addr) (xs ys : Array Value) (i : Nat) : Prop where
  first : i = 0 → ∃ a b, IsZip h z TI TO .none ∧ IsPair h TO a b
  later : 0 < i → ∃ T f x y, IsZipHeld h z TI TO T f ∧ IsPair h T x y
  ti : IsPair h TI (.ref i1) (.ref i2)
  it1 : h.IsListIter i1 l1 i
  it2 : h.IsListIter i2 l2 i
  li1 : h.IsList l1 xs
  li2 : h.IsList l2 ys
structure ZOff (S z TI TO i1 i2 l1 l2 : Addr) : Prop where
  z : S ≠ z
  ti : S ≠ TI
  to : S ≠ TO
  i1 : S ≠ i1
  i2 : S ≠ i2
  l1 : S ≠ l1
  l2 : S ≠ l2
section
variable {prog : Program} {w : World} {A : Around} {z TI TO i1 i2 l1 l2 S lo : Addr} {xs ys : Array Value} {i : Nat} {h h' : Heap}
theorem ZGiven.next {acc : Array Value} {as : List Addr} {T : Addr} {x y : Value} (g : ZGiven h lo acc xs ys i as) (hT : T = h.objs.size) (hlo : lo < T) (hsz : h'.objs.size = h.objs.size + 1) (hx : xs[i]? = some x) (hy : ys[i]? = some y) (hp : IsPair h' T x y)
    (hk : ∀ a ∈ as, ∀ x y, IsPair h a x y → IsPair h' a x y) : ZGiven h' lo (acc.push (.ref T)) xs ys (i + 1) (as ++ [T]) where
  acc := by rw [Array.toList_push, g.acc, List.map_append]; rfl
  len := by rw [List.length_append, g.len]; rfl
  rise := by
    rw [List.pairwise_append]
    refine ⟨g.rise, List.pairwise_singleton _ _, fun a ha b hb => ?_⟩
    rw [List.mem_singleton.mp hb, hT]
    exact g.below a ha
  above := fun a ha => by
    rcases List.mem_append.mp ha with ha | ha
    · exact g.above a ha
    · rw [List.mem_singleton.mp ha]
      exact hlo
  below := fun a ha => by
    rw [hsz]
    rcases List.mem_append.mp ha with ha | ha
    · exact Nat.lt_succ_of_lt (g.below a ha)
    · rw [List.mem_singleton.mp ha, hT]
      exact Nat.lt_succ_self _
  pairs := fun j a hj => by
    by_cases e : j < as.length
    · rw [List.getElem?_append_left e] at hj
      obtain ⟨x', y', h1, h2, h3⟩ := g.pairs j a hj
      exact ⟨x', y', h1, h2, hk a (List.mem_of_getElem? hj) _ _ h3⟩
    · have hl := (List.getElem?_eq_some_iff.mp hj).1
      rw [List.length_append] at hl
      have hl1 : [T].length = 1 := rfl
      have ej : j = as.length := by omega
      rw [List.getElem?_append_right (by omega), ej, Nat.sub_self] at hj
      cases hj
      rw [ej, g.len]
      exact ⟨x, y, hx, hy, hp⟩
theorem ZGiven.upd {acc : Array Value} {as : List Addr} {f : Obj → Obj} {oS : Obj} (g : ZGiven h lo acc xs ys i as) (hS : h.get? S = some oS) (hc : oS.cls = .type "list") : ZGiven (h.update S f) lo acc xs ys i as where
  acc := g.acc
  len := g.len
  rise := g.rise
  above := g.above
  below := fun a ha => by rw [Heap.size_update]; exact g.below a ha
  pairs := fun j a hj => by
    obtain ⟨x, y, h1, h2, h3⟩ := g.pairs j a hj
    refine ⟨x, y, h1, h2, ?_⟩
    have ne : S ≠ a := fun e => by
      subst e
      have h4 : h.get? S = some _ := h3
      rw [hS] at h4
      cases h4
      exact absurd (show Value.type "tuple" = Value.type "list" from hc) (by decide)
    show (h.update S f).get? a = _
    rw [Heap.get?_update_other h f ne]
    exact h3
theorem ZSt.upd {f : Obj → Obj} (s : ZSt h z TI TO i1 i2 l1 l2 xs ys i) (o : ZOff S z TI TO i1 i2 l1 l2) {oS : Obj} (hS : h.get? S = some oS) (hc : oS.cls = .type "list") : ZSt (h.update S f) z TI TO i1 i2 l1 l2 xs ys i where
  first := fun e => by
    obtain ⟨a, b, h1, h2⟩ := s.first e
    exact ⟨a, b, (Heap.get?_update_other h f o.z).trans h1, (Heap.get?_update_other h f o.to).trans h2⟩
  later := fun e => by
    obtain ⟨T, b, x, y, h1, h2⟩ := s.later e
    have ne : S ≠ T := fun e => by
      subst e
      have h4 : h.get? S = some _ := h2
      rw [hS] at h4
      cases h4
      exact absurd (show Value.type "tuple" = Value.type "list" from hc) (by decide)
    exact ⟨T, b, x, y, (Heap.get?_update_other h f o.z).trans h1, (Heap.get?_update_other h f ne).trans h2⟩
  ti := (Heap.get?_update_other h f o.ti).trans s.ti
  it1 := by
    obtain ⟨q, h1, h2⟩ := s.it1
    exact ⟨q, (Heap.get?_update_other h f o.i1).trans h1, h2⟩
  it2 := by
    obtain ⟨q, h1, h2⟩ := s.it2
    exact ⟨q, (Heap.get?_update_other h f o.i2).trans h1, h2⟩
  li1 := by
    obtain ⟨q, h1, h2⟩ := s.li1
    exact ⟨q, (Heap.get?_update_other h f o.l1).trans h1, h2⟩
  li2 := by
    obtain ⟨q, h1, h2⟩ := s.li2
    exact ⟨q, (Heap.get?_update_other h f o.l2).trans h1, h2⟩
theorem zip_loop (hh : A.in1.handled = none) (D : ZipApart z TI TO i1 i2 l1 l2) (o : ZOff S z TI TO i1 i2 l1 l2) (res : Value) {n : Nat} (hn : n = min xs.size ys.size) (hz : n + 1 ≤ sizeLine) {g : Array GenState} {d : _} {tk : Nat} {os : _} {R : Result → Shared → Prop} :
    ∀ (k i : Nat) (h : Heap) (acc : Array Value) (c : Nat) (as : List Addr), n - i = k → i ≤ n → ZSt h z TI TO i1 i2 l1 l2 xs ys i → h.get? S = some { cls := .type "list", data := .seq acc c } → lo < h.objs.size → ZGiven h lo acc xs ys i as →
      (∀ (h' : Heap) (acc' : Array Value) (c' : Nat) (as' : List Addr), (∀ b ob, b ≠ S → b ≠ z → b ≠ TO → b ≠ i1 → b ≠ i2 → h.get? b = some ob → h'.get? b = some ob) → h'.get? S = some { cls := .type "list", data := .seq acc' c' } → ZGiven h' lo acc' xs ys n as' → R (.ok (.ret res)) ⟨h', g, d, tk, os⟩) →
      codeAny (model prog w) A (.builtin "list.extend.loop" ⟨[.ref S, .ref z, res], []⟩) R ⟨h, g, d, tk, os⟩ := by
  intro k
  induction k with
  | zero =>
    intro i h acc c as hk hi st hS hlo gv hR
    have ei : i = n := by omega
    subst ei
    refine codeAny_builtin F.entry_extend_loop ?_
    rw [Around.under_plainId F.plain_extend_loop]
    refine wpAny_bind ?_
    have hend : xs[i]? = none ∨ ys[i]? = none := by
      rcases Nat.le_total xs.size ys.size with e | e
      · left
        exact Array.getElem?_eq_none (by omega)
      · right
        exact Array.getElem?_eq_none (by omega)
    by_cases h0 : i = 0
    · obtain ⟨a, b, hz1, hto⟩ := st.first h0
      refine wpAny_pyNext_zip_end hh D hz1 st.ti hto st.it1 st.it2 st.li1 st.li2 hend fun h' hk' => ?_
      refine wpAny_pure (hR h' acc c as (fun b ob b1 b2 b3 b4 b5 e => hk' b ob b2 b3 b4 b5 e) (hk' S _ o.z o.to o.i1 o.i2 hS) ?_)
      have has : as = [] := List.eq_nil_of_length_eq_zero (gv.len.trans h0)
      subst has
      exact ⟨gv.acc, gv.len, gv.rise, gv.above, (fun a ha => by cases ha), fun j a hj => by cases hj⟩
    · obtain ⟨T, f, tx, ty, hz1, hT⟩ := st.later (by omega)
      refine wpAny_pyNext_zip_end_held hh D hz1 hT st.ti st.it1 st.it2 st.li1 st.li2 hend fun h' hk' => ?_
      refine wpAny_pure (hR h' acc c as (fun b ob b1 b2 b3 b4 b5 e => hk' b ob b2 b4 b5 e) (hk' S _ o.z o.i1 o.i2 hS) ?_)
      have keep : ∀ a ∈ as, ∀ x y, IsPair h a x y → IsPair h' a x y := fun a ha x y hp => by
        refine hk' a _ (fun e => ?_) (fun e => ?_) (fun e => ?_) hp
        · subst e
          have q : h.get? a = some _ := hp
          rw [show h.get? a = some _ from hz1] at q
          injection q with q
          injection q with q
          exact absurd q (by decide)
        · subst e
          obtain ⟨ob, q1, q2, _⟩ := st.it1
          rw [show h.get? a = some _ from hp] at q1
          cases q1
          exact absurd (show Value.type "tuple" = Value.type "list_iterator" from q2) (by decide)
        · subst e
          obtain ⟨ob, q1, q2, _⟩ := st.it2
          rw [show h.get? a = some _ from hp] at q1
          cases q1
          exact absurd (show Value.type "tuple" = Value.type "list_iterator" from q2) (by decide)
      refine ⟨gv.acc, gv.len, gv.rise, gv.above, fun a ha => ?_, fun j a hj => ?_⟩
      · obtain ⟨j, hj⟩ := List.getElem?_of_mem ha
        obtain ⟨x, y, _, _, hp⟩ := gv.pairs j a hj
        exact Heap.lt_size (keep a ha _ _ hp)
      · obtain ⟨x, y, h1, h2, hp⟩ := gv.pairs j a hj
        exact ⟨x, y, h1, h2, keep a (List.mem_of_getElem? hj) _ _ hp⟩
  | succ k ih =>
    intro i h acc c as hk hi st hS hlo gv hR
    refine codeAny_builtin F.entry_extend_loop ?_
    rw [Around.under_plainId F.plain_extend_loop]
    refine wpAny_bind ?_
    obtain ⟨x, hx⟩ : ∃ x, xs[i]? = some x := ⟨_, Array.getElem?_eq_getElem (by omega)⟩
    obtain ⟨y, hy⟩ : ∃ y, ys[i]? = some y := ⟨_, Array.getElem?_eq_getElem (by omega)⟩
    have step : ∀ h' : Heap, ZSt h' z TI TO i1 i2 l1 l2 xs ys (i + 1) → IsPair h' h.objs.size x y → h'.objs.size = h.objs.size + 1 → (∀ b ob, b ≠ z → b ≠ TO → b ≠ i1 → b ≠ i2 → h.get? b = some ob → h'.get? b = some ob) → (∀ a ∈ as, ∀ x y, IsPair h a x y → IsPair h' a x y) →
        wpAny (model prog w) A.in1 (do
          Builtin.List.listUpdate (Value.ref S) fun q => q.push (.ref h.objs.size)
          again (Code.builtin "list.extend.loop" ⟨[.ref S, .ref z, res], []⟩)) (fun fin s' => match fin with
          | Fin.done f => R (Except.ok f) s'
          | Fin.again c' => c'.quiet = true ∧ codeAny (model prog w) A c' R s') (fun e s' => R (Except.error e) s') ⟨h', g, d, tk, os⟩ := fun h' st' hp hsz hk' hkp => by
      have hS' : h'.get? S = some { cls := .type "list", data := .seq acc c } := hk' S _ o.z o.to o.i1 o.i2 hS
      have hal : acc.size = i := by
        have e1 := congrArg List.length gv.acc
        rw [List.length_map, gv.len, Array.length_toList] at e1
        exact e1
      refine wpAny_bind (wpAny_updateSeq hS' rfl (wpAny_pure ⟨plainId_quiet F.plain_extend_loop _, ?_⟩) (by omega) (by rw [Array.size_push]; omega))
      have gv' := gv.next (h' := h') rfl hlo hsz hx hy hp hkp
      refine ih (i + 1) (h'.update S (Obj.mapSeq fun q => q.push (.ref h.objs.size))) (acc.push (.ref h.objs.size)) _ (as ++ [h.objs.size]) (by omega) (by omega) (st'.upd o hS' rfl) (Heap.get?_update_self (Obj.mapSeq fun q => q.push (.ref h.objs.size)) hS' rfl) ?_ (gv'.upd hS' rfl) fun h2 acc2 c2 as2 e1 e2 e3 => ?_
      · rw [Heap.size_update, hsz]
        exact Nat.lt_succ_of_lt hlo
      · exact hR h2 acc2 c2 as2 (fun b ob b1 b2 b3 b4 b5 e => e1 b ob b1 b2 b3 b4 b5 ((Heap.get?_update_other h' _ (Ne.symm b1)).trans (hk' b ob b2 b3 b4 b5 e))) e2 e3
    by_cases h0 : i = 0
    · obtain ⟨a, b, hz1, hto⟩ := st.first h0
      have has : as = [] := List.eq_nil_of_length_eq_zero (gv.len.trans h0)
      refine wpAny_pyNext_zip_item D hz1 st.ti hto st.it1 st.it2 st.li1 st.li2 hx hy fun h' a1 a2 a3 a4 a5 a6 a7 => step h' ⟨fun e => absurd e (Nat.succ_ne_zero _), fun _ => ⟨h.objs.size, false, x, y, a1, a5⟩, a7 TI _ D.TIz D.TITO D.TIi1 D.TIi2 st.ti, a3, a4, ?_, ?_⟩ a5 a6 a7 fun a ha => by rw [has] at ha; cases ha
      · obtain ⟨q, h1, h2⟩ := st.li1
        exact ⟨q, a7 l1 q D.l1z D.l1TO D.l1i1 D.l1i2 h1, h2⟩
      · obtain ⟨q, h1, h2⟩ := st.li2
        exact ⟨q, a7 l2 q D.l2z D.l2TO D.l2i1 D.l2i2 h1, h2⟩
    · obtain ⟨T, f, tx, ty, hz1, hT⟩ := st.later (by omega)
      have kp : ∀ (h' : Heap), (∀ b ob, b ≠ z → b ≠ i1 → b ≠ i2 → h.get? b = some ob → h'.get? b = some ob) → ∀ a x y, IsPair h a x y → IsPair h' a x y := fun h' a7 a x y hp => by
        refine a7 a _ (fun e => ?_) (fun e => ?_) (fun e => ?_) hp
        · subst e
          have q : h.get? a = some _ := hp
          rw [show h.get? a = some _ from hz1] at q
          injection q with q
          injection q with q
          exact absurd q (by decide)
        · subst e
          obtain ⟨ob, q1, q2, _⟩ := st.it1
          rw [show h.get? a = some _ from hp] at q1
          cases q1
          exact absurd (show Value.type "tuple" = Value.type "list_iterator" from q2) (by decide)
        · subst e
          obtain ⟨ob, q1, q2, _⟩ := st.it2
          rw [show h.get? a = some _ from hp] at q1
          cases q1
          exact absurd (show Value.type "tuple" = Value.type "list_iterator" from q2) (by decide)
      refine wpAny_pyNext_zip_item_held D hz1 hT st.ti st.it1 st.it2 st.li1 st.li2 hx hy fun h' a1 a3 a4 a5 a6 a7 => step h' ⟨fun e => absurd e (Nat.succ_ne_zero _), fun _ => ⟨T, true, tx, ty, a1, kp h' a7 T tx ty hT⟩, a7 TI _ D.TIz D.TIi1 D.TIi2 st.ti, a3, a4, ?_, ?_⟩ a5 a6 (fun b ob b1 b2 b3 b4 e => a7 b ob b1 b3 b4 e) fun a ha x y hp => kp h' a7 a x y hp
      · obtain ⟨q, h1, h2⟩ := st.li1
        exact ⟨q, a7 l1 q D.l1z D.l1i1 D.l1i2 h1, h2⟩
      · obtain ⟨q, h1, h2⟩ := st.li2
        exact ⟨q, a7 l2 q D.l2z D.l2i1 D.l2i2 h1, h2⟩
theorem list_init_zip (hh : A.in1.handled = none) (D : ZipApart z TI TO i1 i2 l1 l2) (o : ZOff S z TI TO i1 i2 l1 l2) {n : Nat} (hn : n = min xs.size ys.size) (hz : n + 1 ≤ sizeLine) {g : Array GenState} {d : _} {tk : Nat} {os : _} {R : Result → Shared → Prop}
    (st : ZSt h z TI TO i1 i2 l1 l2 xs ys 0) (hS : h.get? S = some { cls := .type "list", data := .seq #[] }) (hlo : lo < h.objs.size)
    (hR : ∀ (h' : Heap) (acc' : Array Value) (c' : Nat) (as' : List Addr), (∀ b ob, b ≠ S → b ≠ z → b ≠ TO → b ≠ i1 → b ≠ i2 → h.get? b = some ob → h'.get? b = some ob) → h'.get? S = some { cls := .type "list", data := .seq acc' c' } → ZGiven h' lo acc' xs ys n as' → R (.ok (.ret .none)) ⟨h', g, d, tk, os⟩) :
    wpAny (model prog w) A.in1 (Builtin.«list.__init__» ⟨[.ref S, .ref z], []⟩) (fun fin s' => match fin with
      | Fin.done f => R (Except.ok f) s'
      | Fin.again c' => c'.quiet = true ∧ codeAny (model prog w) A c' R s') (fun e s' => R (Except.error e) s') ⟨h, g, d, tk, os⟩ := by
  refine wpAny_bind ?_
  unfold Builtin.List.listItems
  refine wpAny_bind (wpAny_seqItems hS rfl (wpAny_pure ?_))
  refine wpAny_bind (wpAny_updateSeq hS rfl ?_)
  refine wpAny_bind (wpAny_letGo ?_)
  obtain ⟨a0, b0, hz0, hto0⟩ := st.first rfl
  have hS1 := Heap.get?_update_self (h := h) (Obj.mapSeq fun _ => #[]) hS rfl
  have st1 := st.upd (f := Obj.mapSeq fun _ => #[]) o hS rfl
  have sz1 : (h.update S (Obj.mapSeq fun _ => #[])).objs.size = h.objs.size := Heap.size_update _ _ _
  have off1 : ∀ b ob, b ≠ S → h.get? b = some ob → (h.update S (Obj.mapSeq fun _ => #[])).get? b = some ob := fun b ob hb e => (Heap.get?_update_other h _ (Ne.symm hb)).trans e
  generalize h.update S (Obj.mapSeq fun _ => #[]) = h1 at hS1 st1 sz1 off1 ⊢
  have hz1 : h1.get? z = some _ := off1 z _ (Ne.symm o.z) hz0
  have hT : ∀ (h2 : Heap) (g2 : _) , h2.get? z = some { cls := Value.type "zip", data := Data.fields #[Value.none, Value.bool false, Value.bool false, Value.ref TI, Value.ref TO] } → (Shared.mk h2 g2 d tk os).TypeIs (.ref z) "zip" := fun h2 g2 e => ⟨_, e, rfl⟩
  refine wpAny_bind (wpAny_typeOf (hT h1 g hz1) ?_)
  have e1 : (Builtin.List.listSameRef (Value.ref S) (Value.ref z) || Value.type "zip" == Value.type "list" || Value.type "zip" == Value.type "tuple") = false := by
    have : Builtin.List.listSameRef (Value.ref S) (Value.ref z) = false := beq_eq_false_iff_ne.mpr o.z
    rw [this]
    rfl
  rw [e1, if_neg (by decide)]
  refine wpAny_bind (wpAny_pyIter_zip hz1 ?_)
  refine wpAny_bind (wpAny_holding ?_)
  refine wpAny_bind (wpAny_specialOf (hT h1 g hz1) zip_no_len ?_)
  refine wpAny_bind (wpAny_specialOf (hT h1 g hz1) zip_no_hint (wpAny_pure ?_))
  rw [if_pos (by rfl)]
  refine wpAny_bind (wpAny_rule ?_)
  refine wpAny_bind ?_
  unfold Builtin.List.listTouch
  refine wpAny_bind (wpAny_updateSeq hS1 rfl ?_)
  have hS2 := Heap.get?_update_self (h := h1) (Obj.mapSeq fun q => q.push Value.none) hS1 rfl
  have st2 := st1.upd (f := Obj.mapSeq fun q => q.push Value.none) o hS1 rfl
  have sz2 : (h1.update S (Obj.mapSeq fun q => q.push Value.none)).objs.size = h1.objs.size := Heap.size_update _ _ _
  have off2 : ∀ b ob, b ≠ S → h1.get? b = some ob → (h1.update S (Obj.mapSeq fun q => q.push Value.none)).get? b = some ob := fun b ob hb e => (Heap.get?_update_other h1 _ (Ne.symm hb)).trans e
  generalize h1.update S (Obj.mapSeq fun q => q.push Value.none) = h2 at hS2 st2 sz2 off2 ⊢
  refine wpAny_updateSeq hS2 rfl ?_
  have hS3 := Heap.get?_update_self (h := h2) (Obj.mapSeq fun q => q.pop) hS2 rfl
  have st3 := st2.upd (f := Obj.mapSeq fun q => q.pop) o hS2 rfl
  have sz3 : (h2.update S (Obj.mapSeq fun q => q.pop)).objs.size = h2.objs.size := Heap.size_update _ _ _
  have off3 : ∀ b ob, b ≠ S → h2.get? b = some ob → (h2.update S (Obj.mapSeq fun q => q.pop)).get? b = some ob := fun b ob hb e => (Heap.get?_update_other h2 _ (Ne.symm hb)).trans e
  refine wpAny_pure ⟨plainId_quiet F.plain_extend_loop _, ?_⟩
  refine zip_loop (lo := lo) hh D o .none hn hz n 0 (h2.update S (Obj.mapSeq fun q => q.pop)) #[] _ [] (Nat.sub_zero n) (Nat.zero_le n) st3 hS3 (by rw [sz3, sz2, sz1]; exact hlo) ⟨rfl, rfl, .nil, (fun _ h => nomatch h), (fun _ h => nomatch h), (fun _ _ h => by cases h)⟩ fun h' acc' c' as' k1 k2 k3 => ?_
  exact hR h' acc' c' as' (fun b ob b1 b2 b3 b4 b5 e => k1 b ob b1 b2 b3 b4 b5 (off3 b ob b1 (off2 b ob b1 (off1 b ob b1 e)))) k2 k3
/-- list(z), z a zip of two lists as it was made -/
theorem call_list_zip {E : Value → Shared → Prop} {Q : Value → Shared → Prop} (hh : A.in1.in1.handled = none) (D : ZipApart z TI TO i1 i2 l1 l2) {n : Nat} (hn : n = min xs.size ys.size) (hz : n + 1 ≤ sizeLine) {s : Shared} (st : ZSt s.heap z TI TO i1 i2 l1 l2 xs ys 0)
    (hQ : ∀ (h' : Heap) (acc' : Array Value) (c' : Nat) (as' : List Addr), (∀ b ob, b ≠ z → b ≠ TO → b ≠ i1 → b ≠ i2 → s.heap.get? b = some ob → h'.get? b = some ob) → h'.get? s.heap.objs.size = some { cls := .type "list", data := .seq acc' c' } → ZGiven h' s.heap.objs.size acc' xs ys n as' → Q (.ref s.heap.objs.size) { s with heap := h' }) :
    wpAny (model prog w) A (call (.type "list") [.ref z]) Q E s := by
  obtain ⟨h, g, d, tk, os⟩ := s
  obtain ⟨a0, b0, hz0, hto0⟩ := st.first rfl
  refine callType_codes F.called_list (F.typeCall_list_1 _) F.entry_list_init (code_list_new (.ref z) (Q₁ := fun v s' => v = .ref h.objs.size ∧ s' = ⟨h.push { cls := .type "list", data := .seq #[] }, g, d, tk, os⟩) ⟨rfl, rfl⟩) fun obj s₁ h₁ => ?_
  obtain ⟨rfl, rfl⟩ := h₁
  have hS := Heap.get?_push_size h (o := { cls := .type "list", data := .seq #[] }) rfl
  have kp : ∀ b ob, h.get? b = some ob → (h.push { cls := Value.type "list", data := Data.seq #[] }).get? b = some ob := fun b ob e => Heap.get?_push_of_some _ e
  have lt : ∀ {b : Addr} {ob : Obj}, h.get? b = some ob → h.objs.size ≠ b := fun e => Nat.ne_of_gt (Heap.lt_size e)
  have o : ZOff h.objs.size z TI TO i1 i2 l1 l2 := ⟨lt hz0, lt st.ti, lt hto0, (by obtain ⟨_, q, _⟩ := st.it1; exact lt q), (by obtain ⟨_, q, _⟩ := st.it2; exact lt q), (by obtain ⟨_, q, _⟩ := st.li1; exact lt q), (by obtain ⟨_, q, _⟩ := st.li2; exact lt q)⟩
  have st' : ZSt (h.push { cls := Value.type "list", data := Data.seq #[] }) z TI TO i1 i2 l1 l2 xs ys 0 := ⟨fun _ => ⟨a0, b0, kp _ _ hz0, kp _ _ hto0⟩, fun e => absurd e (Nat.lt_irrefl _), kp _ _ st.ti, (by obtain ⟨q, q1, q2⟩ := st.it1; exact ⟨q, kp _ _ q1, q2⟩), (by obtain ⟨q, q1, q2⟩ := st.it2; exact ⟨q, kp _ _ q1, q2⟩), (by obtain ⟨q, q1, q2⟩ := st.li1; exact ⟨q, kp _ _ q1, q2⟩), (by obtain ⟨q, q1, q2⟩ := st.li2; exact ⟨q, kp _ _ q1, q2⟩)⟩
  refine ⟨⟨_, hS, rfl⟩, F.args_list_init_2 _ _, list_init_zip (lo := h.objs.size) hh D o hn hz st' hS (by rw [Heap.size_push]; exact Nat.lt_succ_self _) fun h' acc' c' as' k1 k2 k3 => ⟨rfl, ?_⟩⟩
  exact hQ h' acc' c' as' (fun b ob b2 b3 b4 b5 e => k1 b ob (Ne.symm (lt e)) b2 b3 b4 b5 (kp b ob e)) k2 k3
end
end PySem

set_option Elab.async false
set_option maxRecDepth 100000
set_option maxHeartbeats 4000000
/-! tuple(range(a, b, c)), list(range(a, b, c)), list(zip(x, y)) as expressions -/
namespace L2
open PySem PySem.Spec PyProof.Rows
section
variable {X : Cx}
theorem vals3 {x y z : V} {us : List Value} (r : Vals [x, y, z] us) : ∃ u v w, us = [u, v, w] ∧ RelV x u ∧ RelV y v ∧ RelV z w := by
  cases r with
  | cons h1 r =>
    obtain ⟨v, w, rfl, h2, h3⟩ := vals2 r
    exact ⟨_, v, w, rfl, h1, h2, h3⟩
theorem pylong_no {x c : Int} (h : c.natAbs < 1073741824) : Builtin.divisionGoesByPylong x c = false := by
  unfold Builtin.divisionGoesByPylong
  have hd : ¬ (if (c == 0) = true then 0 else c.natAbs.log2 / 30 + 1) > 300 := by
    split
    · omega
    · rename_i h0
      have hc : c.natAbs ≠ 0 := fun e => h0 (by rw [Int.natAbs_eq_zero.mp e]; rfl)
      have : c.natAbs.log2 < 30 := (Nat.log2_lt hc).mpr (by simpa using h)
      omega
  dsimp only
  rw [decide_eq_false hd]
  rfl
theorem prg_3 {e : Expr} {es : List Expr} {ta : TA} {p pos : Pos} (hg : Gl X "range") (hm : X.mg "range" = none) (ha : PA X (e :: es) ta) (he : starEach (e :: es) X.env = (false, eval e X.env) :: starEach es X.env := by rfl) (hpl : (backTo pos (starEach es X.env)).any (·.1) = false := by rfl) :
    PRg3 X (.Call (.Name "range" p) (e :: es) [] pos) (tRg3 ta) := by
  intro pins s σ H Q I h
  refine PyProof.Rows.Call_ (ld_blt I hg hm (u := .type "range") (by rfl) (PyProof.Rows.callWith_type1 (thn (ha.run pos pins s σ H _ I h) fun us s1 ⟨vs, H1, I1, r1, q1⟩ => ?_) he hpl)) rfl
  obtain ⟨a, b, c, rfl, hc, ⟨h1, h2, h3, h4, h5⟩, q⟩ := q1
  obtain ⟨u, v, w, rfl, ⟨t1, rfl⟩, ⟨t2, rfl⟩, ⟨t3, rfl⟩⟩ := vals3 r1
  refine call_range_3 hc ⟨s1.heap.objs.size, a, b, c, t1, t2, t3, H1, rfl, Heap.get?_push_size _ rfl, ?_, q⟩ (.inl (pylong_no h5))
  exact I1.kept (t' := s1.toks) fun b o e => Heap.get?_push_of_some _ e
def rgC (a c : Int) (n : Nat) : List V := (List.range n).map fun (i : Nat) => .int (a + (i : Int) * c)
theorem vals_rgC {a c : Int} {n : Nat} {acc : Array Value} (h : ItemsOf (fun i v => ∃ t, v = Value.int (a + (i : Int) * c) t) acc n) : Vals (rgC a c n) acc.toList := by
  refine vals_of_at ?_ fun j x u hx hu => ?_
  · show (rgC a c n).length = acc.toList.length
    rw [show acc.toList.length = acc.size from rfl, h.1]
    simp [rgC]
  · have hj : j < n := by
      have := (List.getElem?_eq_some_iff.mp hx).1
      simpa [rgC] using this
    obtain ⟨t, rfl⟩ := h.2 j u (by rw [← Array.getElem?_toList]; exact hu)
    unfold rgC at hx
    rw [List.getElem?_map, List.getElem?_range hj] at hx
    cases hx
    exact ⟨t, rfl⟩
def tTupRg3 (te : St → Hp → (Int → Int → Int → Hp → Prop) → Prop) : TE := fun σ H Q => te σ H fun a b c H1 => ∃ n, RgC a b c n ∧ n ≤ 2 ^ 24 ∧ ∀ q, H1 q = none → Q (.ref q) (upd H1 q (.tup (rgC a c n)))
def tLstRg3 (te : St → Hp → (Int → Int → Int → Hp → Prop) → Prop) : TE := fun σ H Q => te σ H fun a b c H1 => ∃ n, RgC a b c n ∧ n ≤ 2 ^ 24 ∧ ∀ q, H1 q = none → Q (.ref q) (upd H1 q (.lst (rgC a c n)))
theorem pe_tupRg3 {e : Expr} {te : St → Hp → (Int → Int → Int → Hp → Prop) → Prop} {p pos : Pos} (hc : X.calm = true) (hg : Gl X "tuple") (hm : X.mg "tuple" = none) (he : PRg3 X e te) (hs : starEach [e] X.env = (false, eval e X.env) :: starEach [] X.env := by rfl) :
    PE X (.Call (.Name "tuple" p) [e] [] pos) (tTupRg3 te) := by
  refine ⟨fun pins s σ H Q I h => ?_⟩
  refine PyProof.Rows.Call_ (ld_blt I hg hm (u := .type "tuple") (by rfl) (PyProof.Rows.callWith_type1 ?_ hs rfl)) rfl
  rw [hs]
  refine Calls.spliced_cons (thn (he pins s σ H _ I h) fun x s1 ⟨r, a, b, c, t, u, v, H1, ex, hr, I1, n, hn, hz, q⟩ => Calls.spliced_nil ?_)
  subst ex
  obtain ⟨_, _, h3, h4⟩ := hn
  refine call_tuple_range (I1.ok.hd hc) hr h3 h4 hz fun h' tk acc hk hacc => ?_
  have I2 := I1.kept (t' := tk) hk
  have hzl : (rgC a c n).length ≤ sizeLine := by
    rw [show (rgC a c n).length = n by simp [rgC]]
    exact Nat.le_trans hz (by decide)
  refine ⟨.ref h'.objs.size, upd H1 h'.objs.size (.tup (rgC a c n)), I2.laid (t' := tk) (fun b o e => Heap.get?_push_of_some _ e) (Nat.le_refl _) ⟨hzl, acc.toList, vals_rgC hacc, ⟨_, Heap.get?_push_size _ rfl, rfl, _, rfl⟩⟩, rfl, q _ (I2.hok.fresh (Nat.le_refl _))⟩
theorem pe_listRg3 {e : Expr} {te : St → Hp → (Int → Int → Int → Hp → Prop) → Prop} {p pos : Pos} (hc : X.calm = true) (hg : Gl X "list") (hm : X.mg "list" = none) (he : PRg3 X e te) (hs : starEach [e] X.env = (false, eval e X.env) :: starEach [] X.env := by rfl) :
    PE X (.Call (.Name "list" p) [e] [] pos) (tLstRg3 te) := by
  refine ⟨fun pins s σ H Q I h => ?_⟩
  refine PyProof.Rows.Call_ (ld_blt I hg hm (u := .type "list") (by rfl) (PyProof.Rows.callWith_type1 ?_ hs rfl)) rfl
  rw [hs]
  refine Calls.spliced_cons (thn (he pins s σ H _ I h) fun x s1 ⟨r, a, b, c, t, u, v, H1, ex, hr, I1, n, hn, hz, q⟩ => Calls.spliced_nil ?_)
  subst ex
  obtain ⟨_, _, h3, h4⟩ := hn
  refine call_list_range (I1.ok.hd hc) hr h3 h4 hz fun h' tk acc c' hk hS hacc => ?_
  have hzl : (rgC a c n).length ≤ sizeLine := by
    rw [show (rgC a c n).length = n by simp [rgC]]
    exact Nat.le_trans hz (by decide)
  refine ⟨.ref s1.heap.objs.size, upd H1 s1.heap.objs.size (.lst (rgC a c n)), I1.laid (t' := tk) hk (Nat.le_refl _) ⟨hzl, acc.toList, c', vals_rgC hacc, hS⟩, rfl, q _ (I1.hok.fresh (Nat.le_refl _))⟩
/-! list(zip(x, y)), two lists of ints -/
theorem zipApart {n la lb : Nat} (h1 : la < n) (h2 : lb < n) : ZipApart (n + 4) (n + 2) (n + 3) n (n + 1) la lb where
  TIz := show (n + 2 : Nat) ≠ n + 4 by omega
  TOz := show (n + 3 : Nat) ≠ n + 4 by omega
  i1z := show (n : Nat) ≠ n + 4 by omega
  i2z := show (n + 1 : Nat) ≠ n + 4 by omega
  TITO := show (n + 2 : Nat) ≠ n + 3 by omega
  TIi1 := show (n + 2 : Nat) ≠ n by omega
  TIi2 := show (n + 2 : Nat) ≠ n + 1 by omega
  TOi1 := show (n + 3 : Nat) ≠ n by omega
  TOi2 := show (n + 3 : Nat) ≠ n + 1 by omega
  i12 := show (n : Nat) ≠ n + 1 by omega
  l1z := show (la : Nat) ≠ n + 4 by omega
  l1TO := show (la : Nat) ≠ n + 3 by omega
  l1i1 := show (la : Nat) ≠ n by omega
  l1i2 := show (la : Nat) ≠ n + 1 by omega
  l2z := show (lb : Nat) ≠ n + 4 by omega
  l2TO := show (lb : Nat) ≠ n + 3 by omega
  l2i1 := show (lb : Nat) ≠ n by omega
  l2i2 := show (lb : Nat) ≠ n + 1 by omega
theorem lt_off {n b : Nat} (h : b < n) : b ≠ n + 4 ∧ b ≠ n + 3 ∧ b ≠ n ∧ b ≠ n + 1 := ⟨by omega, by omega, by omega, by omega⟩
/-- the same heap with k places more, all of them free -/
theorem padded (h : Heap) : ∀ k : Nat, ∃ h2 : Heap, h2.objs.size = h.objs.size + k ∧ (∀ b o, h.get? b = some o → h2.get? b = some o) ∧ ∀ b o, h2.get? b = some o → h.get? b = some o
  | 0 => ⟨h, rfl, fun _ _ e => e, fun _ _ e => e⟩
  | k + 1 => by
    obtain ⟨h2, e1, e2, e3⟩ := padded h k
    refine ⟨h2.push { cls := .none, data := .freed }, by rw [Heap.size_push, e1]; rfl, fun b o e => Heap.get?_push_of_some _ (e2 b o e), fun b o e => e3 b o ?_⟩
    obtain ⟨objs, life⟩ := h2
    unfold Heap.push Heap.get? at e
    dsimp only at e
    rw [Array.getElem?_push] at e
    by_cases hb : b = objs.size
    · rw [if_pos hb] at e
      cases e
    · rw [if_neg hb] at e
      exact e
theorem paired_at {α β : Type} {R : α → β → Prop} : ∀ {as : List α} {qs : List β} {j : Nat} {t : α}, Paired R as qs → as[j]? = some t → ∃ q, qs[j]? = some q ∧ R t q
  | _ :: _, _ :: _, 0, _, .cons h _, e => by
    cases e
    exact ⟨_, rfl, h⟩
  | _ :: _, _ :: _, j + 1, _, .cons _ h, e => by
    obtain ⟨q, h1, h2⟩ := paired_at (j := j) h (by simpa using e)
    exact ⟨q, by simpa using h1, h2⟩
theorem kv_zip : ∀ (xs : List Int) (ys : List Int) (us : List Value), Vals (ys.map V.int) us → KV ((xs.zip ys).map fun p => ((Sum.inl p.1 : Key), V.int p.2)) ((xs.zip us).map fun p => ((Sum.inl p.1 : Key), p.2))
  | [], _, _, _ => .nil
  | _ :: _, [], [], _ => .nil
  | x :: xs, y :: ys, u :: us, .cons h1 h2 => .cons ⟨rfl, h1⟩ (kv_zip xs ys us h2)
def tLstZip (K : PySem.W.Frag) (t : TA) : TE := fun σ H Q => t σ H fun vs H1 => ∃ (la lb : Addr) (xs ys : List Int), vs = [.ref la, .ref lb] ∧ SqL K H1 la (xs.map V.int) ∧ SqL K H1 lb (ys.map V.int) ∧ xs.length = ys.length ∧ xs.length ≤ 1000000 ∧
  ∀ (D : Addr) (as : List Addr) (H2 : Hp), Ext H1 H2 → H2 D = some (.lst (as.map V.ref)) → as.length = xs.length → (∀ (j : Nat) (t : Addr), as[j]? = some t → ∃ x y, xs[j]? = some x ∧ ys[j]? = some y ∧ H2 t = some (.tup [.int x, .int y])) → Q (.ref D) H2
theorem pe_listZip {a : Expr} {es : List Expr} {ta : TA} {p pz zpos pos : Pos} (hc : X.calm = true) (hg : Gl X "list") (hm : X.mg "list" = none) (hg2 : Gl X "zip") (hm2 : X.mg "zip" = none) (ha : PA X (a :: es) ta)
    (hs : starEach [.Call (.Name "zip" pz) (a :: es) [] zpos] X.env = (false, eval (.Call (.Name "zip" pz) (a :: es) [] zpos) X.env) :: starEach [] X.env := by rfl) (he : starEach (a :: es) X.env = (false, eval a X.env) :: starEach es X.env := by rfl) (hpl : (backTo zpos (starEach es X.env)).any (·.1) = false := by rfl) :
    PE X (.Call (.Name "list" p) [.Call (.Name "zip" pz) (a :: es) [] zpos] [] pos) (tLstZip X.K ta) := by
  refine ⟨fun pins s σ H Q I h => ?_⟩
  refine PyProof.Rows.Call_ (ld_blt I hg hm (u := .type "list") (by rfl) (PyProof.Rows.callWith_type1 ?_ hs rfl)) rfl
  rw [hs]
  refine Calls.spliced_cons (PyProof.Rows.Call_ (ld_blt I hg2 hm2 (u := .type "zip") (by rfl) (PyProof.Rows.callWith_type1 (thn (ha.run zpos pins s σ H _ I h) fun us s1 ⟨vs, H1, I1, r1, q1⟩ => ?_) he hpl)) rfl)
  obtain ⟨la, lb, xs, ys, rfl, hxs, hys, hll, hz, q⟩ := q1
  obtain ⟨u1, u2, rfl, r1a, r1b⟩ := vals2 r1
  obtain rfl : u1 = Value.ref la := r1a
  obtain rfl : u2 = Value.ref lb := r1b
  obtain ⟨its1, rv1, pl1, _⟩ := I1.list hxs
  obtain ⟨its2, rv2, pl2, _⟩ := I1.list hys
  have hl1 : its1.length = xs.length := by rw [← rv1.length, List.length_map]
  have hl2 : its2.length = ys.length := by rw [← rv2.length, List.length_map]
  have lt1 : la < s1.heap.objs.size := by obtain ⟨o, _, e, _⟩ := pl1; exact Heap.lt_size e
  have lt2 : lb < s1.heap.objs.size := by obtain ⟨o, _, e, _⟩ := pl2; exact Heap.lt_size e
  refine call_zip_2 pl1.isList pl2.isList fun h2 z1 z2 z3 z4 z5 z6 z7 => Calls.spliced_nil ?_
  have I2 := I1.kept (t' := s1.toks) z7
  have D : ZipApart (s1.heap.objs.size + 4) (s1.heap.objs.size + 2) (s1.heap.objs.size + 3) s1.heap.objs.size (s1.heap.objs.size + 1) la lb := zipApart lt1 lt2
  have st : ZSt h2 (s1.heap.objs.size + 4) (s1.heap.objs.size + 2) (s1.heap.objs.size + 3) s1.heap.objs.size (s1.heap.objs.size + 1) la lb its1.toArray its2.toArray 0 := ⟨fun _ => ⟨_, _, z1, z3⟩, fun e => absurd e (Nat.lt_irrefl _), z2, z4, z5, (by obtain ⟨o, q1, q2⟩ := pl1.isList; exact ⟨o, z7 _ _ q1, q2⟩), (by obtain ⟨o, q1, q2⟩ := pl2.isList; exact ⟨o, z7 _ _ q1, q2⟩)⟩
  refine call_list_zip (n := xs.length) (s := { s1 with heap := h2 }) (I2.ok.hd hc) D (by simp; omega) (Nat.le_trans (Nat.succ_le_succ hz) (by decide)) st fun h3 acc c as k1 k2 k3 => ?_
  obtain ⟨hp, p1, p2, p3⟩ := padded s1.heap 5
  have I3 := I1.kept (h' := hp) (t' := s1.toks) p2
  have hk : ∀ b ob, hp.get? b = some ob → h3.get? b = some ob := fun b ob e => by
    have e1 := p3 b ob e
    obtain ⟨n1, n2, n3, n4⟩ := lt_off (Heap.lt_size e1)
    exact k1 b ob n1 n2 n3 n4 (z7 b ob e1)
  have hsz : hp.objs.size = h2.objs.size := by rw [p1, z6]
  have hG : W.KdxG (mixKind X.prog X.w) ((xs.zip its2).map fun p => ((Sum.inl p.1 : Key), p.2)) hp.objs.size h3 as := by
    rw [hsz]
    refine ⟨k3.rise, k3.above, fun j a hj => ?_⟩
    obtain ⟨x, y, hx, hy, hpair⟩ := k3.pairs j a hj
    have hx' : its1[j]? = some x := by simpa using hx
    have hy' : its2[j]? = some y := by simpa using hy
    obtain ⟨n, hn⟩ : ∃ n, xs[j]? = some n := ⟨_, List.getElem?_eq_getElem (by have := (List.getElem?_eq_some_iff.mp hx').1; omega)⟩
    obtain ⟨u, hu, ru⟩ := rv1.get (i := j) (x := .int n) (by rw [List.getElem?_map, hn]; rfl)
    rw [hx'] at hu
    cases hu
    obtain ⟨t, rfl⟩ := ru
    refine ⟨_, .inl n, y, ?_, ?_, hpair⟩
    · rw [List.getElem?_map, (List.getElem?_zip_eq_some (z := (n, y))).mpr ⟨hn, hy'⟩]
      rfl
    · show (n == n) = true
      exact beq_self_eq_true n
  have hal : as.length = ((xs.zip its2).map fun p => ((Sum.inl p.1 : Key), p.2)).length := by
    rw [k3.len, List.length_map, List.length_zip]
    omega
  obtain ⟨H3, e1, e2, e3, e4, e5, e6, I4⟩ := LiI.items_laid (kvs := (xs.zip ys).map fun p => ((Sum.inl p.1 : Key), V.int p.2)) (tk := s1.toks) (s := { s1 with heap := hp, toks := s1.toks }) I3 (by rw [List.length_map, List.length_zip]; exact Nat.le_trans (Nat.min_le_left _ _) (Nat.le_trans hz (by decide))) (kv_zip xs ys its2 rv2) hk (by rw [show ({ s1 with heap := hp, toks := s1.toks } : Shared).heap.objs.size = h2.objs.size from hsz]; exact k2) hal hG k3.acc
  refine ⟨.ref h2.objs.size, H3, I4, rfl, q h2.objs.size as H3 e1 ?_ k3.len fun j t hj => ?_⟩
  · rw [← hsz]
    exact e5
  · obtain ⟨q', h1, h2'⟩ := paired_at e6 hj
    rw [List.getElem?_map] at h1
    cases hz' : (xs.zip ys)[j]? with
    | none => rw [hz'] at h1; cases h1
    | some p =>
      rw [hz'] at h1
      cases h1
      obtain ⟨h3', h4'⟩ := List.getElem?_zip_eq_some.mp hz'
      exact ⟨p.1, p.2, h3', h4', h2'⟩
end
end L2

set_option Elab.async false
set_option maxRecDepth 100000
set_option maxHeartbeats 4000000
namespace L2
open PySem PySem.Spec PyProof.Rows
section
variable {X : Cx} {K : PySem.W.Frag}
theorem op_in_seqK (h : X.K = K) : OpR X (compareOp .In) (rIn K false) := by
  subst h
  exact op_in_seq
theorem op_notIn_seqK (h : X.K = K) : OpR X (compareOp .NotIn) (rIn K true) := by
  subst h
  exact op_notIn_seq
theorem inV_ints (a : Int) : ∀ ns : List Int, inV (.int a) (ns.map V.int) = decide (a ∈ ns)
  | [] => rfl
  | n :: ns => by
    have ih := inV_ints a ns
    unfold inV at ih ⊢
    rw [List.map_cons, List.any_cons, ih]
    have e : eqV (.int n) (.int a) = decide (n = a) := rfl
    rw [e, Bool.eq_iff_iff]
    simp
    constructor
    · rintro (e | e)
      · exact .inl e.symm
      · exact .inr e
    · rintro (e | e)
      · exact .inl e.symm
      · exact .inr e
theorem flat_ints {ns : List Int} : (ns.map V.int).all flatV = true := by
  rw [List.all_eq_true]
  intro v hv
  obtain ⟨n, _, rfl⟩ := List.mem_map.mp hv
  rfl
end
end L2

set_option Elab.async false
set_option maxRecDepth 100000
set_option maxHeartbeats 4000000
namespace L2
open PySem PySem.Spec PyProof.Rows
section
variable {X : Cx} {K : PySem.W.Frag} {a : Expr} {ta : TE}
/-- a truth test with K named, for what stands within a comprehension -/
def tTruK (K : PySem.W.Frag) (ta : TE) : TT := fun σ H Q => ta σ H fun x H' => ∃ k, TruV K x H' k ∧ Q k H'
theorem pt_truthK (h : X.K = K) (ha : PE X a ta) (he : ∀ whole, isTrue a X.env whole = (do let v ← whole; standAt a.pos; holding [v] (truthy v))) :
    PT X a (tTruK K ta) := by
  subst h
  exact pt_truth ha he
end
end L2

set_option Elab.async false
set_option maxRecDepth 100000
set_option maxHeartbeats 4000000
/-! for over a list or a tuple, one walk for both; the body only adds to the heap -/
namespace L2
open PySem PySem.Spec PyProof.Rows
section
variable {K : PySem.W.Frag} {a : Addr} {xs : List V}
theorem for_sq {g : TG} {tb : TS} {D : Ends} {σ : St} {H : Hp} (hx : SqL K H a xs ∨ SqT K H a xs) (Pv : Nat → St → Hp → Prop) (h0 : Pv 0 σ H) (hE : ∀ i σ' H', Pv i σ' H' → Ext H H')
    (hs : ∀ i x σ' H', xs[i]? = some x → Pv i σ' H' → g x σ' H' fun σ2 H2 => tb { D with nx := Pv (i + 1), ct := Pv (i + 1), bk := D.nx } σ2 H2) (hd : ∀ σ' H', Pv xs.length σ' H' → D.nx σ' H') :
    ((∃ xs, SqL K H a xs) ∧ turnsOf g tb D σ (Itl K a) H) ∨ ((∃ xs, SqT K H a xs) ∧ turnsOf g tb D σ (Itt K a) H) := by
  have step : ∀ i x σ' H' H'', i < xs.length → Pv i σ' H' → YAt xs i H' x H'' → g x σ' H'' fun σ2 H2 => tb { D with nx := Pv (i + 1), ct := Pv (i + 1), bk := D.nx } σ2 H2 := by
    rintro i x σ' H' H'' _ pv ⟨rfl, hx'⟩
    exact hs i x σ' H'' hx' pv
  rcases hx with hx | hx
  · exact .inl ⟨⟨xs, hx⟩, for_it (walk_list (xs := xs)) Pv h0 (fun i σ' H' _ pv => hx.ext (hE i σ' H' pv)) step hd⟩
  · exact .inr ⟨⟨xs, hx⟩, for_it (walk_tup (xs := xs)) Pv h0 (fun i σ' H' _ pv => hx.ext (hE i σ' H' pv)) step hd⟩
end
end L2

set_option Elab.async false
set_option maxRecDepth 100000
set_option maxHeartbeats 4000000
/-! a tuple whose object is known: its methods may be called -/
namespace L2
open PySem PySem.Spec PyProof.Rows
def FrzT (H : Hp) (a : Addr) (ts : List V) : Prop := ∃ o, H a = some (.frz o (.tup ts)) ∧ o.dict = none
theorem FrzT.sqT {K : PySem.W.Frag} {H : Hp} {a : Addr} {ts : List V} (h : FrzT H a ts) : SqT K H a ts := by
  obtain ⟨o, h, _⟩ := h
  exact .inl (.inr ⟨o, h⟩)
theorem FrzT.ext {H H' : Hp} {a : Addr} {ts : List V} (h : FrzT H a ts) (e : Ext H H') : FrzT H' a ts := by
  obtain ⟨o, h, d⟩ := h
  exact ⟨o, e _ _ h, d⟩
def rTupFrz (K : PySem.W.Frag) : List V → Hp → VK → Prop := fun xs H Q => ∃ p ys, xs = [.ref p] ∧ SqL K H p ys ∧ ∀ l o, H l = none → o.dict = none → Q (.ref l) (upd H l (.frz o (.tup ys)))
section
variable {X : Cx}
theorem call_tuple_frz : CallR X (.type "tuple") (rTupFrz X.K) := by
  intro pins s σ H xs us Q I r h
  obtain ⟨p, ys, rfl, hq, q⟩ := h
  obtain ⟨u, rfl, rx⟩ := vals1 r
  cases rx
  obtain ⟨its, r', pl, hz⟩ := I.list hq
  have hlen := r'.length
  refine call_tuple_list pl.isList (fun h' kp => ?_) (by simp only [List.size_toArray] <;> omega)
  have I1 : Inv X pins σ H { s with heap := h' } := I.kept (t' := s.toks) kp
  have I2 : Inv X pins σ (upd H h'.objs.size (.frz { cls := .type "tuple", data := .seq its.toArray } (.tup ys))) { s with heap := h'.push { cls := .type "tuple", data := .seq its.toArray } } :=
    I1.laid (t' := s.toks) (fun b o e => Heap.get?_push_of_some _ e) (Nat.le_refl _) (show ObjOk X.prog X.w _ _ _ (.frz _ (.tup ys)) from ⟨Heap.get?_push_size _ rfl, hz, its, r', IsTup.new _ _⟩)
  exact ⟨.ref h'.objs.size, _, I2, rfl, q _ _ (I1.hok.fresh (Nat.le_refl _)) rfl⟩
def tTM (r : V → List V → Hp → VK → Prop) (to : TE) (t : TA) : TE := fun σ H Q => to σ H fun x H1 => ∃ a ts, x = .ref a ∧ FrzT H1 a ts ∧ t σ H1 fun xs H2 => r x xs H2 Q
variable {o e : Expr} {es : List Expr} {to : TE} {t : TA} {name : Str} {apos cpos : Pos} {id : String} {r : V → List V → Hp → VK → Prop}
theorem pe_tm (slot : Slot "tuple" name id) (hty : typeOf (.builtin id) = pure (.type "method_descriptor")) (hm : MtR X id r) (ho : PE X o to) (ha : PA X (e :: es) t)
    (hbase : attributeBase o name X.env (eval o X.env) = eval o X.env := by rfl)
    (hfew : ((backTo cpos (starEach (e :: es) X.env)).all (fun x => !x.1) && (backToKw cpos (keywordEach [] X.env)).all (fun x => x.1.isSome)
      && decide ((e :: es).length + ([] : List Keyword).length + (if ([] : List Keyword).isEmpty then 0 else 1) < 30)) = true := by rfl)
    (hline : (apos.endLine == cpos.line) = true := by rfl) (hs : starEach (e :: es) X.env = (false, eval e X.env) :: starEach es X.env := by rfl) (hplain : (backTo cpos (starEach es X.env)).any (·.1) = false := by rfl) :
    PE X (.Call (.Attribute o name apos) (e :: es) [] cpos) (tTM r to t) := by
  refine ⟨fun pins s σ H Q I h => ?_⟩
  refine wpAny_Call_method_late hbase hfew hline rfl (thn (ho.run pins s σ H _ I h) fun v s1 ⟨x, H1, I1, r1, a, ts, ex, hf, q1⟩ => ?_)
  subst ex
  obtain ⟨ob, hf, hd⟩ := hf
  obtain ⟨h0, _, its, _, ⟨ob', h0', hc, _⟩⟩ := I1.hok a _ hf
  rw [h0] at h0'
  cases h0'
  cases (show v = Value.ref a from r1)
  refine ⟨"tuple", id, PySem.F.plainAttrs_tuple, slot, hty, ⟨ob, h0, hc⟩, fun b eb => by cases eb; exact ⟨ob, h0, hd⟩, ?_⟩
  have hA := ha.run cpos pins s1 σ H1 _ I1 q1
  rw [hs] at hA ⊢
  refine Calls.callWith_builtin (by show (false || (backTo cpos (starEach es X.env)).any (·.1)) = false; rw [hplain] <;> rfl) (Calls.evalArgs_plain ?_)
  exact thn hA fun us s2 ⟨vs, H2, I2, r2, q2⟩ => hm pins s2 σ H2 (.ref a) vs (.ref a) us Q I2 rfl r2 q2
end
theorem sl_listK {X : Cx} {K : PySem.W.Frag} (h : X.K = K) : SlR X (rSlL K) := by
  subst h
  exact sl_list
section
variable {K : PySem.W.Frag} {a : Addr} {xs : List V}
/-- for over a list or a tuple that the body leaves, though it writes elsewhere -/
theorem for_sqM {g : TG} {tb : TS} {D : Ends} {σ : St} {H0 H : Hp} (hx : SqL K H0 a xs ∨ SqT K H0 a xs) (Pv : Nat → St → Hp → Prop) (h0 : Pv 0 σ H) (hE : ∀ i σ' H', Pv i σ' H' → Ext H0 H')
    (hs : ∀ i x σ' H', xs[i]? = some x → Pv i σ' H' → g x σ' H' fun σ2 H2 => tb { D with nx := Pv (i + 1), ct := Pv (i + 1), bk := D.nx } σ2 H2) (hd : ∀ σ' H', Pv xs.length σ' H' → D.nx σ' H') :
    ((∃ xs, SqL K H a xs) ∧ turnsOf g tb D σ (Itl K a) H) ∨ ((∃ xs, SqT K H a xs) ∧ turnsOf g tb D σ (Itt K a) H) := by
  have step : ∀ i x σ' H' H'', i < xs.length → Pv i σ' H' → YAt xs i H' x H'' → g x σ' H'' fun σ2 H2 => tb { D with nx := Pv (i + 1), ct := Pv (i + 1), bk := D.nx } σ2 H2 := by
    rintro i x σ' H' H'' _ pv ⟨rfl, hx'⟩
    exact hs i x σ' H'' hx' pv
  have e0 := hE 0 _ _ h0
  rcases hx with hx | hx
  · exact .inl ⟨⟨xs, hx.ext e0⟩, for_it (walk_list (xs := xs)) Pv h0 (fun i σ' H' _ pv => hx.ext (hE i σ' H' pv)) step hd⟩
  · exact .inr ⟨⟨xs, hx.ext e0⟩, for_it (walk_tup (xs := xs)) Pv h0 (fun i σ' H' _ pv => hx.ext (hE i σ' H' pv)) step hd⟩
/-- for i, x in enumerate(e), the body leaving e, though it writes elsewhere -/
theorem for_enSqM {g : TG} {tb : TS} {D : Ends} {σ : St} {H0 H : Hp} (hx : SqL K H0 a xs ∨ SqT K H0 a xs) (Pv : Nat → St → Hp → Prop) (h0 : Pv 0 σ H) (hE : ∀ i σ' H', Pv i σ' H' → Ext H0 H')
    (hs : ∀ i x σ' H' T, xs[i]? = some x → Pv i σ' H' → H' T = none → g (.ref T) σ' (upd H' T (.tup [.int (i : Nat), x])) fun σ2 H2 => tb { D with nx := Pv (i + 1), ct := Pv (i + 1), bk := D.nx } σ2 H2) (hd : ∀ σ' H', Pv xs.length σ' H' → D.nx σ' H') :
    ((∃ xs, SqL K H a xs) ∧ turnsOf g tb D σ (Ite K a) H) ∨ ((∃ xs, SqT K H a xs) ∧ turnsOf g tb D σ (Itet K a) H) := by
  have step : ∀ i x σ' H' H'', i < xs.length → Pv i σ' H' → YPair (fun i => some (V.int (i : Nat))) (fun i => xs[i]?) i H' x H'' → g x σ' H'' fun σ2 H2 => tb { D with nx := Pv (i + 1), ct := Pv (i + 1), bk := D.nx } σ2 H2 := by
    rintro i v σ' H' H'' hi pv ⟨T, x, y, rfl, hT, rfl, hx', hy⟩
    cases hx'
    exact hs i y σ' H' T hy pv hT
  have e0 := hE 0 _ _ h0
  rcases hx with hx | hx
  · exact .inl ⟨⟨xs, hx.ext e0⟩, for_it (walk_enum (xs := xs)) Pv h0 (fun i σ' H' _ pv => hx.ext (hE i σ' H' pv)) step hd⟩
  · exact .inr ⟨⟨xs, hx.ext e0⟩, for_it (walk_enT (xs := xs)) Pv h0 (fun i σ' H' _ pv => hx.ext (hE i σ' H' pv)) step hd⟩
end
end L2

set_option Elab.async false
set_option maxRecDepth 100000
set_option maxHeartbeats 4000000
/-! data beside instances within a tuple -/
namespace L2
open PySem PySem.Spec PyProof.Rows
section
variable {X : Cx}
variable {n : Nat}
/-- two things of data -/
def DDat (K : PySem.W.Frag) : EqvB := fun x y H k => ∃ a b d e, x = .ref a ∧ y = .ref b ∧ (a = b → k = true) ∧ Dp K H x d ∧ Dp K H y e ∧ SeqAt.shaped d = true ∧ SeqAt.shaped e = true ∧ k = PyData.eqv d e
theorem rcB_dat : RcB X n (DDat X.K) := by
  intro A pins s σ H x y u v k sb I rx ry d
  obtain ⟨a, b, d, e, rfl, rfl, _, hd, he, sd, se, rfl⟩ := d
  obtain ⟨as, r1⟩ := Dp.reads I d _ u hd rx
  obtain ⟨bs, r2⟩ := Dp.reads I e _ v he ry
  exact SeqAt.compareEq_shaped r1 r2 sd se sb.room.units ⟨rfl, H, I, Ext.rfl'⟩
theorem eqB_dat : EqB X n (DDat X.K) := rcB_dat.eqB fun x y H k d => by
  obtain ⟨a, b, _, _, h1, h2, h3, _⟩ := d
  exact ⟨a, b, h1, h2, h3⟩
theorem EqB.or {D D' : EqvB} (h : EqB X n D) (h' : EqB X n D') : EqB X n (fun x y H k => D x y H k ∨ D' x y H k) := by
  intro A pins s σ H x y u v k sb I rx ry d
  exact d.elim (fun d => h A pins s σ H x y u v k sb I rx ry d) (fun d => h' A pins s σ H x y u v k sb I rx ry d)
theorem MonB.or {D D' : EqvB} (h : MonB D) (h' : MonB D') : MonB (fun x y H k => D x y H k ∨ D' x y H k) := fun x y H H' k e d => d.imp (h x y H H' k e) (h' x y H H' k e)
theorem mon_dat {K : PySem.W.Frag} : MonB (DDat K) := fun x y H H' k e d => by
  obtain ⟨a, b, d, f, h1, h2, h3, hd, he, h4⟩ := d
  exact ⟨a, b, d, f, h1, h2, h3, dp_ext e _ _ hd, dp_ext e _ _ he, h4⟩
end
end L2

set_option Elab.async false
set_option maxRecDepth 100000
set_option maxHeartbeats 4000000
/-! not in, of an own __contains__ -/
namespace L2
open PySem PySem.Spec PyProof.Rows
section
variable {X : Cx} {CX : CXT} {k : Nat} {f C : Addr} {fd : FuncData} {ps : List Str} {sp : Sp}
def rNinO (C : Addr) (sp : Sp) : R2 := fun x y H Q => ∃ a dx fs, y = .ref a ∧ H a = some (.ins C dx fs) ∧ sp [y, x] H (fun v H' => ∃ b, v = .bl b ∧ Q (.bl (!b)) H') E0
theorem op_ninO (F : FnOk X.prog X.w X.K X.mg X.base CX k f fd ps sp) (hs : PySem.W.findIn X.K (.ref C) "__contains__" = some (some (.ref f))) (hf : PySem.W.isFn X.K (.ref f) = true) (hr : Room k X.A) (hb : Binds X.K fd ps []) (hx : Passes CX X E0) : OpR X (compareOp .NotIn) (rNinO C sp) := by
  intro pins s g J x y v u Q I rx ry hq
  obtain ⟨a, dx, fs, rfl, ha, q⟩ := hq
  cases (show u = Value.ref a from ry)
  obtain ⟨mA, O, _⟩ := ins_get I.hok ha
  obtain ⟨od, O, _⟩ := O.look
  show wpAny (model X.prog X.w) X.A (contains (.ref a) v >>= fun b => pure (.bool (!b))) (EP X pins g Q) X.xe s
  refine wpAny_bind (PySem.W.contains_fn I.kIn O hs hf (wpAny_mono (run_at (vs := [.ref a, x]) F hr rfl hb hx I (.cons rfl (.cons rx .nil)) q) (fun r s' z => ?_) fun _ _ e => e))
  obtain ⟨w', J', I', rv, b, rfl, q'⟩ := z
  cases rv
  exact ⟨b, rfl, wpAny_pure ⟨.bl (!b), J', I', rfl, q'⟩⟩
theorem ninO {m : Nat} (O : OwnM X.prog X.w X.K X.mg X.base CX C "__contains__" m ps sp) (hr : Room m X.A) (hx : Passes CX X E0) : OpR X (compareOp .NotIn) (rNinO C sp) := by
  obtain ⟨f, fd, F, M, hi, hb⟩ := O.ex
  exact op_ninO F M.at_ hi hr hb hx
end
end L2

set_option Elab.async false
set_option maxRecDepth 100000
set_option maxHeartbeats 4000000
/-! xs.count(y), over data -/
namespace L2
open PySem PySem.Spec PyProof.Rows
section
variable {X : Cx}
def rCntD (K : PySem.W.Frag) : V → List V → Hp → VK → Prop := fun x xs H Q => ∃ (a : Addr) (y : V) (d : PyData) (ds : List PyData), x = V.ref a ∧ xs = [y] ∧ Dp K H (V.ref a) (.list ds) ∧ Dp K H y d ∧ PyData.plainAll ds = true ∧ d.plain = true ∧ PyData.depthAll ds ≤ 60 ∧ Q (.int ((ds.countP fun z => PyData.eqv z d : Nat) : Int)) H
theorem mt_countD (hu : X.A.units + 64 < cLine) : MtR X "list.count" (rCntD X.K) := by
  intro pins s σ H x xs v us Q I rx rxs h
  obtain ⟨a, y, d, ds, rfl, rfl, hl, hy, sl, sd, hdp, q⟩ := h
  cases rx
  obtain ⟨u, rfl, ru⟩ := rxs.one
  obtain ⟨bs, r1⟩ := Dp.reads I d y u hy ru
  cases hl with
  | lst hs ha =>
    obtain ⟨its, rv, pl, _⟩ := I.list hs
    obtain ⟨as, h4⟩ := Dp.readsAll I ds _ its ha rv
    exact SeqAt.count_list_data pl.isList (by simpa using h4) r1 sl sd (by have := Nat.min_le_left (PyData.depthAll ds) d.depth; omega) ⟨.int _, H, I.tok _, ⟨_, rfl⟩, q⟩
end
end L2

set_option Elab.async false
set_option linter.all false
set_option maxRecDepth 100000
set_option maxHeartbeats 4000000
/-! a generator's for and if -/
namespace L2
open PySem PySem.Spec PyProof.Rows GenW
section
variable {M : Model} {A : Around} {R : GenEnd} {Y : Protocol} {n : Nat} {s₀ s : Shared} {c : Code} {fs : List Frame} {env : Env} {K : Flow → Sem PySem.Fin} {J : Value → Sem PySem.Fin} {gd : Bool → Bool} {lv : List Value → List Value}
/-- the row that an error leaves in a loop's code -/
abbrev marked (env : Env) (e : Value) : Sem PySem.Fin := (do noteFrame e env; theTreesLotGoes e : Sem Unit).bind fun _ => .raise e
/-- what a loop's body goes on to -/
abbrev onward (l : Code) : Flow → Sem PySem.Fin := fun f => match f with
  | .next | .cont => .pure (.again l)
  | .brk => .pure (.done .next)
  | .ret v => .pure (.done (.ret v))
theorem gseg_if {test : Expr} {body orelse : List Stmt} {pos : Pos}
    (h : wpAny M (A.over c fs) (isTrue test env (eval test env)) (fun b s' => Seg M A R Y n s₀ c ((if b = true then execs body env else execs orelse env).wrap K J gd lv) fs s') (fun x s' => Seg M A R Y n s₀ c (J x) fs s') s) :
    Seg M A R Y n s₀ c ((exec (.If test body orelse pos) env).wrap K J gd lv) fs s := by
  rw [exec_If]
  refine seg_bind_wrap (wpAny_standAt ?_)
  refine seg_bind_wrap (wpAny_mono h (fun b s' hb => ?_) fun _ _ hx => hx)
  cases b <;> exact hb
theorem gseg_for {tg iter : Expr} {body : List Stmt} {pos : Pos} (hs : ∀ x, foldedSetIterable iter env x = pure x)
    (h : wpAny M (A.over c fs) (eval iter env) (fun v s1 => wpAny M (A.over c fs) (pyIter v) (fun it s2 => ∀ p, Seg M A R Y n s₀ (.forLoop tg it body [] env) (M.den (.forLoop tg it body [] env))
      (.ret (fun r => ((match r with | .ok f => (.pure f : Sem Flow) | .error e => .raise e).onRaise (cameBack env)).wrap K J gd lv) none (gd false) (lv []) c p [] :: fs) s2) (fun x s' => Seg M A R Y n s₀ c (J x) fs s') s1) (fun x s' => Seg M A R Y n s₀ c (J x) fs s') s) :
    Seg M A R Y n s₀ c ((exec (.For tg iter body [] pos) env).wrap K J gd lv) fs s := by
  rw [exec_For]
  refine seg_bind_wrap (wpAny_standAt ?_)
  refine seg_bind_wrap (wpAny_mono h (fun v s1 h1 => ?_) fun _ _ hx => hx)
  refine seg_bind_wrap (wpAny_of_eq (hs v) ?_)
  refine seg_bind_wrap (wpAny_standAt ?_)
  refine seg_bind_wrap (wpAny_holding (wpAny_mono h1 (fun it s2 h2 => ?_) fun _ _ hx => hx))
  exact seg_call h2
end
section
variable {prog : Program} {w : World} {A : Around} {R : GenEnd} {Y : Protocol} {n : Nat} {s₀ s : Shared} {fs : List Frame} {env : Env}
theorem gseg_turn {tg : Expr} {it : Value} {body : List Stmt}
    (h : wpAny (model prog w) (A.over (.forLoop tg it body [] env) fs) (pyNext it) (fun r s1 => match r with
      | none => Seg (model prog w) A R Y n s₀ (.forLoop tg it body [] env) (.pure (.again (.block [] env))) fs s1
      | some v => wpAny (model prog w) (A.over (.forLoop tg it body [] env) fs) (letOwnedTupleGo tg it v) (fun _ s2 => wpAny (model prog w) (A.over (.forLoop tg it body [] env) fs) (assign tg env v) (fun _ s3 =>
          Seg (model prog w) A R Y n s₀ (.forLoop tg it body [] env) ((execs body env).wrap (onward (.forLoop tg it body [] env)) (marked env) id id) fs s3)
          (fun x s' => Seg (model prog w) A R Y n s₀ (.forLoop tg it body [] env) (marked env x) fs s') s2) (fun x s' => Seg (model prog w) A R Y n s₀ (.forLoop tg it body [] env) (marked env x) fs s') s1)
      (fun x s' => Seg (model prog w) A R Y n s₀ (.forLoop tg it body [] env) (marked env x) fs s') s) :
    Seg (model prog w) A R Y n s₀ (.forLoop tg it body [] env) ((model prog w).den (.forLoop tg it body [] env)) fs s := by
  show Seg _ A R Y n s₀ _ ((forTurn tg it body [] env).onRaise (fun x => do noteFrame x env; theTreesLotGoes x)) fs s
  unfold forTurn
  rw [Sem.onRaise_eq_wrap]
  refine seg_bind_wrap (wpAny_standAt ?_)
  refine seg_bind_wrap (wpAny_onRaise (wpAny_mono h (fun r s1 h1 => ?_) fun _ _ hx => wpAny_standAt hx))
  cases r with
  | none => exact h1
  | some v =>
    refine seg_bind_wrap (wpAny_mono h1 (fun _ s2 h2 => ?_) fun _ _ hx => hx)
    refine seg_bind_wrap (wpAny_mono h2 (fun _ s3 h3 => ?_) fun _ _ hx => hx)
    rw [Sem.bind_eq_wrap', Sem.wrap_wrap]
    rw [Sem.wrap_congr (execs body env) _ _ (K' := onward (.forLoop tg it body [] env)) (H' := marked env) (fun f => by cases f <;> rfl) (fun _ => by rfl)]
    exact h3
end
section
variable {X : Cx} {pos : Pos}
def tGIf (c : TT) (t u : TGn) : TGn := fun D ys σ H => c σ H fun b H1 => if b = true then t D ys σ H1 else u D ys σ H1
theorem gs_if {test : Expr} {body orelse : List Stmt} {tc : TT} {t u : TGn} (hc : PT X test tc) (hb : GSs X body t) (ho : GSs X orelse u) : GS X (.If test body orelse pos) (tGIf tc t u) := by
  refine ⟨fun A S ip R n ys s₀ c fs K J gd lv s σ H D g hn k hI ht => ?_⟩
  refine gseg_if ?_
  rw [g.over]
  obtain ⟨acc, cc, r, I⟩ := hI
  refine wpAny_mono (hc.run _ s σ H _ I ht) (fun b s' hb' => ?_) fun x s' hx => k.exc n s₀ x s' hx
  obtain ⟨H2, I2, q2⟩ := hb'
  cases b with
  | true => exact hb.run A S ip R n ys s₀ c fs K J gd lv s' σ H2 D g hn k ⟨acc, cc, r, I2⟩ q2
  | false => exact ho.run A S ip R n ys s₀ c fs K J gd lv s' σ H2 D g hn k ⟨acc, cc, r, I2⟩ q2
/-- W: what holds at turn i (a measure; what is out; the slots; the heap) -/
def tGFor (wi : TI) (g : TG) (tb : TGn) : TGn := fun D ys σ H => wi σ H fun J H1 => ∃ W : Nat → Nat → List V → St → Hp → Prop, (∃ m, W 0 m ys σ H1) ∧ ∀ i m ys σ H, W i m ys σ H →
  (J.stop i H ∧ D.nx ys σ H) ∨ (J.go i H ∧ ∃ N : List V → St → Hp → Prop, (∀ ys' σ' H', N ys' σ' H' → ∃ m', m' < m ∧ W (i + 1) m' ys' σ' H') ∧ ∀ x H', J.yld i H x H' → g x σ H' fun σ2 H2 => tb { D with nx := N, ct := N, bk := D.nx } ys σ2 H2)
theorem gs_for {tg iter : Expr} {body : List Stmt} {wi : TI} {g : TG} {tb : TGn} (hp : PassesOwn (model X.prog X.w) X.A X.env X.xe) (hc : X.calm = true) (hi : PI X tg iter wi) (hg : PG X tg g) (hb : GSs X body tb)
    (hs : ∀ x, foldedSetIterable iter X.env x = pure x := by intro _; rfl) : GS X (.For tg iter body [] pos) (tGFor wi g tb) := by
  refine ⟨fun A S ip R n ys s₀ c fs K J gd lv s σ H D g0 hn k hI ht => ?_⟩
  refine gseg_for hs ?_
  obtain ⟨acc, cc, r, I⟩ := hI
  rw [g0.over]
  refine wpAny_mono (hi.run _ s σ H _ I ht) (fun v s1 h1 => wpAny_mono h1 (fun itv s2 h2 p => ?_) fun x s' hx => k.exc n s₀ x s' hx) fun x s' hx => k.exc n s₀ x s' hx
  obtain ⟨it, fp, tn, Jt, H2, e, I2, T, st2, f2, W, ⟨m0, w0⟩, turn⟩ := h2
  subst e
  have notS : ∀ b ∈ fp, b ≠ S := fun b hb z => (f2 b hb).2.2.2.2.2 (S, lstObj acc cc) (List.mem_append_right _ List.mem_cons_self) z.symm
  have stat : ∀ {H' : Hp} {acc' : Array Value} {cc' : Nat}, (∀ b ∈ fp, H' b = none) → ∀ b ∈ fp, FpOk X ((S, lstObj acc' cc') :: ip) H' b := fun {H' acc' cc'} hn b hb => by
    obtain ⟨_, f1, f3, f4, f5, f6⟩ := f2 b hb
    refine ⟨hn b hb, f1, f3, f4, f5, fun q hq => ?_⟩
    rcases List.mem_append.mp hq with z | z
    · exact f6 q (List.mem_append_left _ z)
    · rcases List.mem_cons.mp z with z | z
      · rw [z]
        exact f6 (S, lstObj acc cc) (List.mem_append_right _ List.mem_cons_self)
      · exact f6 q (List.mem_append_right _ (List.mem_cons_of_mem _ z))
  have gl := fun (kk : Result → Sem PySem.Fin) => gc_loop (k := kk) (c' := .forLoop tg (.ref it) body [] X.env) (l := lv []) (kp := []) (p := p) g0 rfl rfl
  have gb := fun (kk : Result → Sem PySem.Fin) => gc_loop (k := kk) (c' := .block [] X.env) (l := lv []) (kp := []) (p := p) g0 rfl rfl
  have loop : ∀ (m n i : Nat) (ys : List V) (s₀ s : Shared) (σ : St) (H : Hp), n + ys.length = sizeLine → W i m ys σ H → tn i s.heap → (∀ b ∈ fp, H b = none) → GI X S ip ys σ H s →
      Seg (model X.prog X.w) A R (GY X S) n s₀ (.forLoop tg (.ref it) body [] X.env) ((model X.prog X.w).den (.forLoop tg (.ref it) body [] X.env))
        (.ret (fun r => ((match r with | .ok f => (.pure f : Sem Flow) | .error e => .raise e).onRaise (cameBack X.env)).wrap K J gd lv) none (gd false) (lv []) c p [] :: fs) s := by
    intro m
    induction m using Nat.strongRecOn with
    | ind m ih =>
      intro n i ys s₀ s3 σ3 H3 hn w3 st3 fr3 hI3
      have ee : ∀ (n : Nat) (s₀ : Shared) (x : Value) (s' : Shared), X.xe x s' → Seg (model X.prog X.w) A R (GY X S) n s₀ (.forLoop tg (.ref it) body [] X.env) (marked X.env x)
          (.ret (fun r => ((match r with | .ok f => (.pure f : Sem Flow) | .error e => .raise e).onRaise (cameBack X.env)).wrap K J gd lv) none (gd false) (lv []) c p [] :: fs) s' := fun n s₀ x s' hx => by
        unfold marked
        rw [Sem.bind_eq_wrap]
        refine seg_wrap ?_
        rw [(gl _).over]
        refine wpAny_bind (wpAny_mono (hp x s' hx) (fun _ s'' hcb => wpAny_theTreesLotGoes ?_) fun y s'' hcb => ?_)
        · exact seg_leaf (.error x) (seg_cameBack g0 k hcb)
        · exact seg_leaf (.error y) (seg_cameBack g0 k hcb)
      obtain ⟨acc3, cc3, r3, I3⟩ := hI3
      refine gseg_turn ?_
      rw [(gl _).over]
      rcases turn i m ys σ3 H3 w3 with ⟨stop, qn⟩ | ⟨go, N, hN, step⟩
      · refine wpAny_mono (T.done X rfl rfl rfl hc i _ s3 σ3 H3 X.xe I3 (stat fr3) st3 stop) (fun r s4 hr => ?_) fun x s' hx => ee n s₀ x s' hx
        obtain ⟨rfl, I4⟩ := hr
        refine seg_again rfl ?_
        show Seg _ A R _ n s₀ _ (((execs [] X.env).onRaise (fun x => do noteFrame x X.env; theTreesLotGoes x)) >>= fun f => (.pure (.done f) : Sem PySem.Fin)) _ s4
        exact seg_leaf (.ok .next) (k.ok n ys s₀ s4 .next hn ⟨σ3, H3, ⟨acc3, cc3, r3, I4⟩, qn⟩)
      · refine wpAny_mono (T.item X rfl rfl rfl hc i _ s3 σ3 H3 X.xe I3 (stat fr3) st3 go) (fun r s4 hr => ?_) fun x s' hx => ee n s₀ x s' hx
        obtain ⟨u, rfl, h4⟩ := hr
        refine wpAny_mono h4 (fun _ s5 h5 => ?_) fun x s' hx => ee n s₀ x s' hx
        obtain ⟨x, H5, I5, r5, y5, st5, fr5⟩ := h5
        have I5' := I5.pinned (stat fr5) (T.obj _ _ st5)
        refine wpAny_mono (hg.run _ s5 σ3 H5 x u _ I5' r5 (step x H5 y5)) (fun _ s6 h6 => ?_) fun x s' hx => ee n s₀ x s' hx
        obtain ⟨σ6, H6, I6, q6⟩ := h6
        have g1 := gl (fun r => ((match r with | .ok f => (.pure f : Sem Flow) | .error e => .raise e).onRaise (cameBack X.env)).wrap K J gd lv)
        have gl' : GC X S (ip ++ pinsAt fp s5.heap) A (.forLoop tg (.ref it) body [] X.env) (.ret (fun r => ((match r with | .ok f => (.pure f : Sem Flow) | .error e => .raise e).onRaise (cameBack X.env)).wrap K J gd lv) none (gd false) (lv []) c p [] :: fs) id :=
          ⟨g1.pn, fun q hq => (List.mem_append.mp hq).elim (g1.ip q) fun z => notS q.1 (of_pinsAt z).1, g1.apart, g1.over, g1.split, g1.guard, rfl⟩
        refine hb.run A S (ip ++ pinsAt fp s5.heap) R n ys s₀ _ _ _ _ id id s6 σ6 H6 { D with nx := N, ct := N, bk := D.nx } gl' hn ⟨fun n' ys' s₀' s7 f hn' hs => ?_, fun n' s₀' x s7 hx => ee n' s₀' x s7 hx⟩ ⟨acc3, cc3, r3, I6⟩ q6
        have back : ∀ {σ7 : St} {H7 : Hp}, GI X S (ip ++ pinsAt fp s5.heap) ys' σ7 H7 s7 → GI X S ip ys' σ7 H7 s7 ∧ tn (i + 1) s7.heap ∧ ∀ b ∈ fp, H7 b = none := fun {σ7 H7} h7 => by
          obtain ⟨acc7, cc7, r7, I7⟩ := h7
          have pin : ∀ b ∈ fp, ∀ o, s5.heap.get? b = some o → s7.heap.get? b = some o ∧ H7 b = none := fun b hb o e => by
            obtain ⟨e1, e2, _⟩ := I7.pin (b, o) (List.mem_append_right _ (List.mem_cons_of_mem _ (List.mem_append_right _ (mem_pinsAt hb e))))
            exact ⟨e1, e2⟩
          refine ⟨⟨acc7, cc7, r7, Inv.unpinned (pins := (S, lstObj acc7 cc7) :: ip) (pl := pinsAt fp s5.heap) I7⟩, T.keep _ _ _ st5 fun b hb o e => (pin b hb o e).1, fun b hb => ?_⟩
          obtain ⟨o, e, _⟩ := T.obj _ _ st5 b hb
          exact (pin b hb o e).2
        cases f with
        | next =>
          obtain ⟨σ7, H7, G7, n7⟩ := hs
          obtain ⟨m', hm, w7⟩ := hN ys' σ7 H7 n7
          obtain ⟨G8, st8, fr8⟩ := back G7
          exact seg_again rfl (ih m' hm n' (i + 1) ys' s₀' s7 σ7 H7 hn' w7 st8 fr8 G8)
        | cont =>
          obtain ⟨σ7, H7, G7, n7⟩ := hs
          obtain ⟨m', hm, w7⟩ := hN ys' σ7 H7 n7
          obtain ⟨G8, st8, fr8⟩ := back G7
          exact seg_again rfl (ih m' hm n' (i + 1) ys' s₀' s7 σ7 H7 hn' w7 st8 fr8 G8)
        | brk =>
          obtain ⟨σ7, H7, G7, n7⟩ := hs
          exact seg_leaf (.ok .next) (k.ok n' ys' s₀' s7 .next hn' ⟨σ7, H7, (back G7).1, n7⟩)
        | ret v =>
          obtain ⟨x7, σ7, H7, G7, r7, n7⟩ := hs
          exact seg_leaf (.ok (.ret v)) (k.ok n' ys' s₀' s7 (.ret v) hn' ⟨x7, σ7, H7, (back G7).1, r7, n7⟩)
  exact loop m0 n 0 ys s₀ s2 σ H2 hn w0 st2 (fun b hb => (f2 b hb).1) ⟨acc, cc, r, I2⟩
end
end L2

set_option Elab.async false
set_option linter.all false
set_option maxRecDepth 100000
set_option maxHeartbeats 4000000
/-! max(xs, default=d), min(xs, default=d), ints -/
namespace L2
open PySem PySem.Spec PyProof.Rows
def mxD (d : Int) : List Int → Int
  | [] => d
  | n :: ns => ns.foldl max n
def mnD (d : Int) : List Int → Int
  | [] => d
  | n :: ns => ns.foldl min n
theorem foldl_max (n : Int) : ∀ ns : List Int, (ns.foldl max n = n ∨ ns.foldl max n ∈ ns) ∧ n ≤ ns.foldl max n ∧ ∀ y ∈ ns, y ≤ ns.foldl max n
  | [] => ⟨.inl rfl, Int.le_refl _, fun _ h => nomatch h⟩
  | k :: ns => by
    obtain ⟨h1, h2, h3⟩ := foldl_max (max n k) ns
    rw [List.foldl_cons]
    refine ⟨?_, by omega, fun y hy => ?_⟩
    · rcases h1 with h1 | h1
      · rcases Int.le_total n k with h | h
        · exact .inr (by rw [h1, Int.max_eq_right h]; exact List.mem_cons_self)
        · exact .inl (by rw [h1, Int.max_eq_left h])
      · exact .inr (List.mem_cons_of_mem _ h1)
    · rcases List.mem_cons.mp hy with rfl | hy
      · omega
      · exact h3 y hy
theorem foldl_min (n : Int) : ∀ ns : List Int, (ns.foldl min n = n ∨ ns.foldl min n ∈ ns) ∧ ns.foldl min n ≤ n ∧ ∀ y ∈ ns, ns.foldl min n ≤ y
  | [] => ⟨.inl rfl, Int.le_refl _, fun _ h => nomatch h⟩
  | k :: ns => by
    obtain ⟨h1, h2, h3⟩ := foldl_min (min n k) ns
    rw [List.foldl_cons]
    refine ⟨?_, by omega, fun y hy => ?_⟩
    · rcases h1 with h1 | h1
      · rcases Int.le_total n k with h | h
        · exact .inl (by rw [h1, Int.min_eq_left h])
        · exact .inr (by rw [h1, Int.min_eq_right h]; exact List.mem_cons_self)
      · exact .inr (List.mem_cons_of_mem _ h1)
    · rcases List.mem_cons.mp hy with rfl | hy
      · omega
      · exact h3 y hy
theorem mxD_mem {d : Int} {ns : List Int} (h : ns ≠ []) : mxD d ns ∈ ns ∧ ∀ y ∈ ns, y ≤ mxD d ns := by
  cases ns with
  | nil => exact absurd rfl h
  | cons n ns =>
    obtain ⟨h1, h2, h3⟩ := foldl_max n ns
    refine ⟨?_, fun y hy => ?_⟩
    · rcases h1 with h1 | h1
      · exact List.mem_cons.mpr (.inl h1)
      · exact List.mem_cons_of_mem _ h1
    · rcases List.mem_cons.mp hy with rfl | hy
      · exact h2
      · exact h3 y hy
theorem mnD_mem {d : Int} {ns : List Int} (h : ns ≠ []) : mnD d ns ∈ ns ∧ ∀ y ∈ ns, mnD d ns ≤ y := by
  cases ns with
  | nil => exact absurd rfl h
  | cons n ns =>
    obtain ⟨h1, h2, h3⟩ := foldl_min n ns
    refine ⟨?_, fun y hy => ?_⟩
    · rcases h1 with h1 | h1
      · exact List.mem_cons.mpr (.inl h1)
      · exact List.mem_cons_of_mem _ h1
    · rcases List.mem_cons.mp hy with rfl | hy
      · exact h2
      · exact h3 y hy
section
variable {X : Cx}
def rMxD (K : PySem.W.Frag) (f : Int → List Int → Int) : List V → List V → Hp → VK → Prop := fun vs zs H Q => ∃ (a : Addr) (ns : List Int) (d : Int), vs = [V.ref a] ∧ zs = [.int d] ∧ SqL K H a (ns.map V.int) ∧ Q (.int (f d ns)) H
theorem ints_pd (ns : List Int) : (ns.map V.int).map pd = ns.map PyData.int := by
  rw [List.map_map]
  rfl
theorem ints_alike (ns : List Int) : PySem.W.AlikeAll (ns.map PyData.int) := by
  refine ⟨fun x hx y hy => ?_, fun x hx => ?_⟩
  · obtain ⟨a, _, rfl⟩ := List.mem_map.mp hx
    obtain ⟨b, _, rfl⟩ := List.mem_map.mp hy
    rfl
  · obtain ⟨a, _, rfl⟩ := List.mem_map.mp hx
    exact fun z => nomatch z
theorem ints_dep (ns : List Int) : PyData.depthAll (ns.map PyData.int) = 0 := by
  rw [← ints_pd]
  exact (lay_all fl_ints).2
theorem cr_maxD (hc : X.calm = true) (hu : X.A.units + 64 < cLine) : CallRK X (.builtin "max") [Str.ofString "default"] (rMxD X.K mxD) := by
  intro pins s σ H vs zs us ws Q I r rz h
  obtain ⟨a, ns, d, rfl, rfl, hs, q⟩ := h
  obtain rfl := Vals.ref1 r
  obtain ⟨w1, rfl, e1⟩ := vals1 rz
  obtain ⟨its, rv, hl, _⟩ := I.list hs
  have hd : DpAll X.K H (ns.map V.int) (ns.map PyData.int) := by rw [← ints_pd]; exact dp_all fl_ints
  obtain ⟨as, h4⟩ := Dp.readsAll I _ _ its hd rv
  refine PySem.W.max_list_default (xs := ns.map PyData.int) (I.ok.hd hc) hl.isList (by simpa using h4) (ints_alike ns) (by rw [ints_dep]; omega) (fun he h' tk hk => ?_) (fun y ys i v h' tk bs he hi hr hk => ?_)
  · have hn : ns = [] := List.map_eq_nil_iff.mp he
    subst hn
    exact ⟨.int d, H, I.kept hk, e1, q⟩
  · cases ns with
    | nil => cases he
    | cons n ns =>
      rw [List.map_cons] at he
      injection he with he1 he2
      subst he1 he2
      rw [PySem.W.maxD_ints] at hr
      cases hr
      exact ⟨.int _, H, I.kept hk, ⟨_, rfl⟩, q⟩
theorem cr_minD (hc : X.calm = true) (hu : X.A.units + 64 < cLine) : CallRK X (.builtin "min") [Str.ofString "default"] (rMxD X.K mnD) := by
  intro pins s σ H vs zs us ws Q I r rz h
  obtain ⟨a, ns, d, rfl, rfl, hs, q⟩ := h
  obtain rfl := Vals.ref1 r
  obtain ⟨w1, rfl, e1⟩ := vals1 rz
  obtain ⟨its, rv, hl, _⟩ := I.list hs
  have hd : DpAll X.K H (ns.map V.int) (ns.map PyData.int) := by rw [← ints_pd]; exact dp_all fl_ints
  obtain ⟨as, h4⟩ := Dp.readsAll I _ _ its hd rv
  refine PySem.W.min_list_default (xs := ns.map PyData.int) (I.ok.hd hc) hl.isList (by simpa using h4) (ints_alike ns) (by rw [ints_dep]; omega) (fun he h' tk hk => ?_) (fun y ys i v h' tk bs he hi hr hk => ?_)
  · have hn : ns = [] := List.map_eq_nil_iff.mp he
    subst hn
    exact ⟨.int d, H, I.kept hk, e1, q⟩
  · cases ns with
    | nil => cases he
    | cons n ns =>
      rw [List.map_cons] at he
      injection he with he1 he2
      subst he1 he2
      rw [PySem.W.minD_ints] at hr
      cases hr
      exact ⟨.int _, H, I.kept hk, ⟨_, rfl⟩, q⟩
end
end L2

set_option Elab.async false
set_option linter.all false
set_option maxRecDepth 100000
set_option maxHeartbeats 4000000
/-! a generator def of the top that keeps its promise; list(f(..)) of it -/
namespace L2
open PySem PySem.Spec PyProof.Rows GenW
section
variable {P : Program} {w : World} {K : PySem.W.Frag} {mg : Str → Option Value} {base : Heap}
structure OwnG (P : Program) (w : World) (K : PySem.W.Frag) (mg : Str → Option Value) (base : Heap) (x : Str) (k : Nat) (ps : List Str) (sp : SpG) : Prop where
  ex : ∃ (f : Addr) (fd : FuncData), GFn P w K mg base k f fd ps sp ∧ mg x = some (.ref f) ∧ PySem.W.keepIn K (.ref f) = true ∧ Binds K fd ps []
theorem DefAt.ownG {x : Str} {st : Stmt} {ps : List Str} {k : Nat} {sp : SpG} (D : DefAt K mg x st ps) (h : ∀ f fd, Fun K x x st f fd → GFn P w K mg base k f fd ps sp) : OwnG P w K mg base x k ps sp := by
  obtain ⟨f, fd, F, hm, hb⟩ := D.ex
  exact ⟨f, fd, h f fd F, hm, F.kp, hb⟩
/-- a generator def by its body -/
theorem gfn_fun {x qual : Str} {st : Stmt} {f : Addr} {fd : FuncData} {N ps : List Str} {k : Nat} {sp : SpG} (F : Fun K x qual st f fd) (S : GScope N ps (defScope st)) (len : ∀ vs H Q E, sp vs H Q E → vs.length = ps.length)
    (hbody : ∀ (cdv : Value) (A : Around) (outer : List Env) (s : Shared) (H : Hp) (vs : List V) (Q : List V → Hp → Prop) (E : XK) (pn : List (Addr × Obj)), Room k (A.deeper (envOfC qual (defScope st) s.heap.objs.size f cdv)) → sp vs H Q E →
      ∃ t, GSs (gcxOf P w K mg base N qual (defScope st) f cdv A outer s H E pn) (defBody st) t ∧ t { nx := fun ys _ H' => Q ys H', rt := fun ys v H' => v = .non ∧ Q ys H' } [] (start N vs) H) : GFn P w K mg base (k + 1) f fd ps sp := by
  obtain ⟨oc, od, kV, doc, pm, an, cdv, ct, osl, rfl, lk, hcd⟩ := F.ex
  exact gfn_of lk hcd S len fun A outer s H vs Q E pn hr hsp => hbody cdv A outer s H vs Q E pn hr hsp
end
section
variable {X : Cx} {x nm : Str} {k : Nat} {ps : List Str} {sp : SpG} {e : Expr} {es : List Expr} {t : TA} {p p2 pos pos2 : Pos}
theorem noStop0 {K : PySem.W.Frag} : NoStop K E0 := fun _ _ _ h => False.elim h
/-- list(f(e, ..)) -/
theorem pe_listOwnG (O : OwnG X.prog X.w X.K X.mg X.base x k ps sp) (hr : Room (k + 3) X.A) (ha : PA X (e :: es) t) (hmg : X.mg nm = none) (hgl : Gl X nm := by rfl) (hg : Gl X x := by rfl) (hv : bootBuiltins nm = some (.type "list") := by decide +kernel) (hnm : nm ≠ "__name__" := by decide) (hdb : (nm == ("__debug__" : Str)) = false := by decide) (hdb2 : (x == ("__debug__" : Str)) = false := by decide)
    (he : starEach (e :: es) X.env = (false, eval e X.env) :: starEach es X.env := by rfl) (hpl : (backTo pos (starEach es X.env)).any (·.1) = false := by rfl)
    (he2 : starEach [Expr.Call (.Name x p) (e :: es) [] pos] X.env = (false, eval (Expr.Call (.Name x p) (e :: es) [] pos) X.env) :: starEach [] X.env := by rfl) : PE X (.Call (.Name nm p2) [.Call (.Name x p) (e :: es) [] pos] [] pos2) (tListG (tCallG sp [] E0 t)) := by
  obtain ⟨f, fd, F, hm, hk, hb⟩ := O.ex
  exact pe_listG (pgen_call F (hr.mono (by omega)) hg hm hk hb .nil ha hdb2 he hpl) passL noStop0 hr hgl hmg hv hnm hdb he2
end
section
variable {K : PySem.W.Frag} {g : TG} {tb : TGn} {D : GEnds} {ys : List V} {σ : St} {H : Hp}
theorem gfor_range {lo : Int} {n : Nat} (Pv : Nat → List V → St → Hp → Prop) (h0 : Pv 0 ys σ H) (hs : ∀ i ys σ H, i < n → Pv i ys σ H → g (.int (lo + i)) σ H fun σ2 H2 => tb { D with nx := Pv (i + 1), ct := Pv (i + 1), bk := D.nx } ys σ2 H2) (hd : ∀ ys σ H, Pv n ys σ H → D.nx ys σ H) :
    ∃ W : Nat → Nat → List V → St → Hp → Prop, (∃ m, W 0 m ys σ H) ∧ ∀ i m ys σ H, W i m ys σ H →
      ((Itr lo n).stop i H ∧ D.nx ys σ H) ∨ ((Itr lo n).go i H ∧ ∃ N : List V → St → Hp → Prop, (∀ ys' σ' H', N ys' σ' H' → ∃ m', m' < m ∧ W (i + 1) m' ys' σ' H') ∧ ∀ x H', (Itr lo n).yld i H x H' → g x σ H' fun σ2 H2 => tb { D with nx := N, ct := N, bk := D.nx } ys σ2 H2) := by
  refine ⟨fun i m ys σ H => m = n - i ∧ i ≤ n ∧ Pv i ys σ H, ⟨n - 0, rfl, Nat.zero_le _, h0⟩, ?_⟩
  rintro i m ys σ H ⟨rfl, hi, pv⟩
  by_cases hlt : i < n
  · refine .inr ⟨hlt, Pv (i + 1), fun ys' σ' H' q => ⟨n - (i + 1), by omega, rfl, hlt, q⟩, fun x H' hy => ?_⟩
    obtain ⟨rfl, rfl⟩ := hy
    exact hs i ys σ _ hlt pv
  · have e : i = n := by omega
    subst e
    exact .inl ⟨Nat.le_refl _, hd ys σ H pv⟩
theorem gfor_list {a : Addr} {xs : List V} (Pv : Nat → List V → St → Hp → Prop) (h0 : Pv 0 ys σ H) (hl : ∀ i ys σ H, i ≤ xs.length → Pv i ys σ H → SqL K H a xs) (hs : ∀ i x ys σ H, xs[i]? = some x → Pv i ys σ H → g x σ H fun σ2 H2 => tb { D with nx := Pv (i + 1), ct := Pv (i + 1), bk := D.nx } ys σ2 H2) (hd : ∀ ys σ H, Pv xs.length ys σ H → D.nx ys σ H) :
    ∃ W : Nat → Nat → List V → St → Hp → Prop, (∃ m, W 0 m ys σ H) ∧ ∀ i m ys σ H, W i m ys σ H →
      ((Itl K a).stop i H ∧ D.nx ys σ H) ∨ ((Itl K a).go i H ∧ ∃ N : List V → St → Hp → Prop, (∀ ys' σ' H', N ys' σ' H' → ∃ m', m' < m ∧ W (i + 1) m' ys' σ' H') ∧ ∀ x H', (Itl K a).yld i H x H' → g x σ H' fun σ2 H2 => tb { D with nx := N, ct := N, bk := D.nx } ys σ2 H2) := by
  refine ⟨fun i m ys σ H => m = xs.length - i ∧ i ≤ xs.length ∧ Pv i ys σ H, ⟨xs.length - 0, rfl, Nat.zero_le _, h0⟩, ?_⟩
  rintro i m ys σ H ⟨rfl, hi, pv⟩
  have hq := hl i ys σ H hi pv
  by_cases hlt : i < xs.length
  · have hx : xs[i]? = some xs[i] := List.getElem?_eq_getElem hlt
    refine .inr ⟨⟨xs, xs[i], hq, hx⟩, Pv (i + 1), fun ys' σ' H' q => ⟨xs.length - (i + 1), by omega, rfl, hlt, q⟩, fun x H' hy => ?_⟩
    obtain ⟨rfl, hy⟩ := hy
    exact hs i x ys σ _ (hy xs hq) pv
  · have e : i = xs.length := by omega
    subst e
    exact .inl ⟨⟨xs, hq, Nat.le_refl _⟩, hd ys σ H pv⟩
theorem gfor_tup {a : Addr} {xs : List V} (Pv : Nat → List V → St → Hp → Prop) (h0 : Pv 0 ys σ H) (hl : ∀ i ys σ H, i ≤ xs.length → Pv i ys σ H → SqT K H a xs) (hs : ∀ i x ys σ H, xs[i]? = some x → Pv i ys σ H → g x σ H fun σ2 H2 => tb { D with nx := Pv (i + 1), ct := Pv (i + 1), bk := D.nx } ys σ2 H2) (hd : ∀ ys σ H, Pv xs.length ys σ H → D.nx ys σ H) :
    ∃ W : Nat → Nat → List V → St → Hp → Prop, (∃ m, W 0 m ys σ H) ∧ ∀ i m ys σ H, W i m ys σ H →
      ((Itt K a).stop i H ∧ D.nx ys σ H) ∨ ((Itt K a).go i H ∧ ∃ N : List V → St → Hp → Prop, (∀ ys' σ' H', N ys' σ' H' → ∃ m', m' < m ∧ W (i + 1) m' ys' σ' H') ∧ ∀ x H', (Itt K a).yld i H x H' → g x σ H' fun σ2 H2 => tb { D with nx := N, ct := N, bk := D.nx } ys σ2 H2) := by
  refine ⟨fun i m ys σ H => m = xs.length - i ∧ i ≤ xs.length ∧ Pv i ys σ H, ⟨xs.length - 0, rfl, Nat.zero_le _, h0⟩, ?_⟩
  rintro i m ys σ H ⟨rfl, hi, pv⟩
  have hq := hl i ys σ H hi pv
  by_cases hlt : i < xs.length
  · have hx : xs[i]? = some xs[i] := List.getElem?_eq_getElem hlt
    refine .inr ⟨⟨xs, xs[i], hq, hx⟩, Pv (i + 1), fun ys' σ' H' q => ⟨xs.length - (i + 1), by omega, rfl, hlt, q⟩, fun x H' hy => ?_⟩
    obtain ⟨rfl, hy⟩ := hy
    exact hs i x ys σ _ (hy xs hq) pv
  · have e : i = xs.length := by omega
    subst e
    exact .inl ⟨⟨xs, hq, Nat.le_refl _⟩, hd ys σ H pv⟩
end
end L2

set_option Elab.async false
set_option linter.all false
set_option maxRecDepth 100000
set_option maxHeartbeats 4000000
/-! ==, not in over data, the kit's own part named -/
namespace L2
open PySem PySem.Spec PyProof.Rows
section
variable {X : Cx} {K : PySem.W.Frag}
theorem op_eqDK (h : X.K = K) (hu : X.A.units + 64 < cLine) : OpR X (compareOp .Eq) (rEqD K) := by
  subst h
  exact op_eqD hu
theorem op_neDK (h : X.K = K) (hu : X.A.units + 64 < cLine) : OpR X (compareOp .NotEq) (rNeD K) := by
  subst h
  exact op_neD hu
theorem op_inDK (h : X.K = K) (hu : X.A.units + 65 < cLine) : OpR X (compareOp .In) (rInD K) := by
  subst h
  exact op_inD hu
theorem op_notInDK (h : X.K = K) (hu : X.A.units + 65 < cLine) : OpR X (compareOp .NotIn) (rNotInD K) := by
  subst h
  exact op_notInD hu
end
end L2

set_option Elab.async false
set_option linter.all false
/-! all, any within comprehensions: the kit's own part named -/
namespace L2
open PySem PySem.Spec PyProof.Rows
section
variable {X : Cx} {K : PySem.W.Frag}
theorem cr_allK (h : X.K = K) (hc : X.calm = true) : CallR X (.builtin "all") (rAll K) := by
  subst h
  exact cr_all hc
theorem cr_anyK (h : X.K = K) (hc : X.calm = true) : CallR X (.builtin "any") (rAny K) := by
  subst h
  exact cr_any hc
end
end L2

set_option Elab.async false
set_option linter.all false
set_option maxRecDepth 100000
set_option maxHeartbeats 4000000
/-! own errors with one field whose own base is OverflowError -/
namespace L2
open PySem PySem.Spec PyProof.Rows
open Builtin Builtin.ObjectAttr PySem.W PySem.HandSPX
/-- what stands behind the class itself -/
abbrev ofBack : List Value := [.type "OverflowError", .type "ArithmeticError", .type "Exception", .type "BaseException", .type "object"]
theorem of_calm (self : Value) (C : Addr) : refuseLoop self "__setattr__" (.ref C :: ofBack) = pure () := by
  rw [refuseLoop_ref]
  exact PySem.F.store_OverflowError.passes self
theorem of_has (Y : String) (C : Addr) : (Value.ref C :: ofBack).contains (.type Y) = ofBack.contains (.type Y) := by
  rw [List.contains_cons]
  rfl
section
variable {prog : Program} {w : World} {A : Around} {R : Result → Shared → Prop} {hp : Heap} {g : Array GenState} {d : Drawn} {t : Nat} {os : OsState}
/-- the first field of such an error -/
theorem of_first {K : Frag} {nm : Str} {tk : Tok} {val : Value} {a C : Addr} {parts : Array Value} {cd : ClassData}
    (inK : K.In hp) (at_a : hp.get? a = some { cls := .ref C, data := .fields parts }) (at_C : clsIn K C = some cd) (line : cd.mro = .ref C :: ofBack) (dct : cd.hasDict = true) (free : findIn K (.ref C) nm = some none)
    (goal : ∀ hp2 tk2 dx, (∀ b o, b ≠ a → hp.get? b = some o → hp2.get? b = some o) → hp.objs.size ≤ dx → dx ≠ a → hp2.get? a = some { cls := .ref C, dict := some dx, data := .fields parts } →
      hp2.Ns1 dx (fun y => if y = nm then some val else none) → R (.ok (.ret .none)) ⟨hp2, g, d, tk2, os⟩) :
    codeAny (model prog w) A (.call (.builtin "object.__setattr__") ⟨[.ref a, .str nm tk, val], []⟩) R ⟨hp, g, d, t, os⟩ := by
  have here : InstAt hp a { cls := .ref C, data := .fields parts } C none := ⟨at_a, rfl, rfl, trivial⟩
  have facts := F.store_object
  have full : cd.mro.isEmpty = false := by rw [line]; rfl
  have top : cd.mro.contains (.type "object") = true := by rw [line, of_has]; decide +kernel
  have off : a ≠ hp.objs.size := Nat.ne_of_lt (Heap.lt_size at_a)
  have isObj : Looks (model prog w) hp (isInstance (.ref a) (.type "object")) true :=
    here.type.andThen (looks_mroIn inK (by unfold mroIn; rw [at_C, Option.bind_some, if_neg (by rw [full]; decide), top]))
  refine codeAny_call_builtin facts.slot.plain facts.entry
    (@check_slot (model prog w) _ _ ⟨hp, g, d, t, os⟩ "object.__setattr__" "object" "__setattr__" (.ref a) [.str nm tk, val] [] _ facts.kind facts.split isObj (facts.args (.ref a) (.str nm tk) val) ?_)
  have mroL : Looks (model prog w) hp (mroOf (.ref C)) cd.mro := (looks_clsIn inK at_C).andThen .now
  have taker : Looks (model prog w) hp (storeTaker? none) none := .now
  have data : Looks (model prog w) hp (classData C) cd := looks_clsIn inK at_C
  rw [osa_eq, refuse_eq]
  refine wpAny_bind (wpAny_bind (here.type.at (wpAny_bind (mroL.at ?_))))
  rw [line, of_calm]
  refine wpAny_pure (wpAny_bind (here.type.at (wpAny_bind ((looks_findIn inK free).at (wpAny_bind (taker.at ?_))))))
  show wpAny _ _ (storeInOwnDict (.ref a) (.ref C) (.str nm tk) nm val false) _ _ _
  obtain ⟨c1, c2, c3, c4, c5, c6, c7, c8, c9, c10, c11⟩ := cd
  dsimp only at dct
  subst dct
  unfold storeInOwnDict ownDictForStores
  repeat (first | with_reducible refine store_in_new ?_ ?_ | with_reducible refine wpAny_loadPart_at at_a ?_ | with_reducible refine data.at ?_ | wp_step)
  · exact ⟨_, #[], _, (Heap.get?_update_ne _ _ _ _ off.symm).trans (Heap.get?_push_at rfl rfl), rfl, fun e he => absurd he (by simp), fun _ => rfl⟩
  · intro hp2 tk2 ns2 same
    have at_a2 : (hp.push { cls := .type "dict", data := .dict #[] }).get? a = some { cls := .ref C, data := .fields parts } := Heap.get?_push_of_some _ at_a
    refine goal hp2 tk2 hp.objs.size (fun b o hb ho => ?_) (Nat.le_refl _) off.symm ?_ ns2
    · exact (same.2 b (Nat.ne_of_lt (Heap.lt_size ho))).trans ((Heap.get?_update_ne _ _ _ _ hb).trans (Heap.get?_push_of_some _ ho))
    · exact (same.2 a off).trans (Heap.get?_update_self _ at_a2 rfl)
end
/-- what the top has of such a class -/
structure OofC (K : PySem.W.Frag) (C : Addr) : Prop where
  cls : ∃ nm q N bs sn sub ab col dd k0 k1 k2 k3 k5, K.lookup C = some (excClassObj nm q C N bs ofBack true sn sub ab col dd k0 k1 k2 k3 k5 "OverflowError.__new__")
  sa : findIn K (.ref C) "__setattr__" = some (some (.builtin "object.__setattr__"))
  exC : subIn K (.ref C) (.type "BaseException") = some true
  tyC : typeIn K (.ref C) = some (.type "type")
  kC : keepIn K (.ref C) = true
section
variable {X : Cx} {pins : List (Addr × Obj)} {σ : St} {H : Hp} {s : Shared} {a C : Addr} {f : Str} {y : V} {u : Value} {Q : Unit → Shared → Prop} {E : Value → Shared → Prop} {A : Around}
theorem of_store (T : OofC X.K C) (I : Inv X pins σ H s) (e : H a = some (exo a C none)) (free : findIn X.K (.ref C) f = some none) (ry : RelV y u)
    (goal : ∀ dx s', H dx = none → dx ≠ a → Inv X pins σ (upd (upd H dx (exd dx [(f, y)])) a (exo a C (some dx))) s' → Q () s') : wpAny (model X.prog X.w) A (setAttr (.ref a) f u) Q E s := by
  obtain ⟨nm, q, N, bs, sn, sub, ab, col, dd, k0, k1, k2, k3, k5, at_C⟩ := T.cls
  have data : clsIn X.K C = some { name := nm, bases := bs, mro := .ref C :: ofBack, ns := N, qualname := q, hasDict := true, slotNames := sn, subclasses := sub, abstract := ab, collection := col, hasDel := false } := by
    unfold clsIn
    rw [at_C] <;> rfl
  obtain ⟨t1, ho⟩ := exo_at I.hok e
  obtain ⟨hp, g, d, t, os⟩ := s
  refine set_plain I.kIn (ox := { cls := .ref C, dict := none, data := .fields #[.ref t1, .none, .none, .none, .bool false, .none] }) (od := none) ⟨ho, rfl, rfl, trivial⟩ T.sa ?_
  refine of_first I.kIn ho data rfl rfl free fun hp2 tk2 dx k far ne at_a ns2 => ?_
  have none_dx : H dx = none := I.hok.fresh far
  have old : ∀ {b : Addr} {o : Obj}, hp.get? b = some o → b ≠ dx := fun {b o} z => Nat.ne_of_lt (Nat.lt_of_lt_of_le (Heap.lt_size z) far)
  have other : ∀ {b : Addr}, H b = none → b ≠ a := fun {b} z w => by
    rw [w, e] at z
    cases z
  have U : Un X.fs [] H (upd (upd H dx (exd dx [(f, y)])) a (exo a C (some dx))) hp hp2 :=
    ⟨fun b o z n _ _ => k b o (other n) z, fun b o z n _ _ => ⟨o.slots, k b o (other n) z⟩, fun b o z n _ => by rw [upd_ne (other n), upd_ne (old z)]; exact n,
      fun b o z _ => by
        by_cases hb : b = a
        · rw [hb]
          exact ⟨_, at_a⟩
        · exact ⟨o, k b o hb z⟩,
      fun b xs z => by rw [upd_ne (at_ne e z exo_tup), upd_ne (ne_of_none z none_dx)]; exact z,
      fun b o v z => by rw [upd_ne (at_ne e z exo_frz), upd_ne (ne_of_none z none_dx)]; exact z,
      fun b ps z => ⟨#[], by rw [upd_ne (at_ne e z exo_tbl), upd_ne (ne_of_none z none_dx), z]; simp⟩⟩
  refine goal dx _ none_dx ne (I.un (t' := tk2) U fun b o z => ?_)
  by_cases hb : b = a
  · subst hb
    rw [upd_same] at z
    cases z
    exact exo_ok at_a
  · rw [upd_ne hb] at z
    by_cases hd : b = dx
    · subst hd
      rw [upd_same] at z
      cases z
      exact exd_ok ns2 (relO_put (fs := []) ry fun _ => True.intro)
    · rw [upd_ne hd] at z
      refine (I.hok b o z).stay (fun c v hc w => k c v ?_ w) (fun c hc => ?_) fun c xs hc => ?_
      · rcases hc with hc | hc
        · rw [hc]
          exact hb
        · exact at_ne e hc exo_own
      · rw [upd_ne (at_ne e hc exo_own), upd_ne (ne_of_none hc none_dx)]
        exact hc
      · rw [upd_ne (at_ne e hc exo_tup), upd_ne (ne_of_none hc none_dx)]
        exact hc
end
/-- self.f = e, the one field -/
def tOstO (K : PySem.W.Frag) (f : Str) (to te : TE) : TS := fun D σ H => te σ H fun y H1 => to σ H1 fun x H2 => ∃ a C : Addr, x = .ref a ∧ OofC K C ∧ findIn K (.ref C) f = some none ∧
  H2 a = some (exo a C none) ∧ ∀ dx, H2 dx = none → dx ≠ a → D.nx σ (upd (upd H2 dx (exd dx [(f, y)])) a (exo a C (some dx)))
section
variable {X : Cx} {o e : Expr} {es : List Expr} {to te : TE} {ta : TA} {f : Str} {p p' pos : Pos}
theorem ps_ostO (ho : PE X o to) (he : PE X e te) (hs : swapsWith e (some (.Attribute o f p')) pos.line X.env = pure false := by rfl) : PS X (.Assign [.Attribute o f p'] e pos) (tOstO X.K f to te) := by
  refine ⟨fun pins s σ H D I h => ?_⟩
  refine plainObj_wpAny_Assign_Attribute (thn (he.run pins s σ H _ I h) fun v s1 ⟨y, H1, I1, r1, q1⟩ => thn (ho.run pins s1 σ H1 _ I1 q1) fun u s2 ⟨x, H2, I2, r2, a, C, ex, T, free, ea, q⟩ => ?_) hs
  subst ex
  obtain rfl : u = Value.ref a := r2
  exact of_store T I2 ea free r1 fun dx s' n ne J => ⟨σ, _, J, q dx n ne⟩
/-- C(e, ..) of such a class -/
theorem pmk_oof {CX : CXT} {x : Str} {C fI : Addr} {k : Nat} {fd : FuncData} {ps : List Str} {sp : Sp} {ds : List Value} {dvs : List V} (T : OofC X.K C) (hasI : findIn X.K (.ref C) "__init__" = some (some (.ref fI))) (isF : typeIn X.K (.ref fI) = some (.type "function"))
    (G : FnOk X.prog X.w X.K X.mg X.base CX k fI fd ps sp) (room : Room (k + 1) X.A) (bind : Binds X.K fd ps ds) (dflt : Vals dvs ds) (pass : Passes CX X (fun _ _ _ => False)) (hg : Gl X x) (hm : X.mg x = some (.ref C)) (ha : PA X (e :: es) ta)
    (hdb : (x == ("__debug__" : Str)) = false := by decide) (he : starEach (e :: es) X.env = (false, eval e X.env) :: starEach es X.env := by rfl) (hpl : (backTo pos (starEach es X.env)).any (·.1) = false := by rfl) :
    PMk X (.Call (.Name x p) (e :: es) [] pos) (tMkO C sp dvs ta) := by
  intro pins s σ H Q I h
  obtain ⟨nm, q, N, bs, sn, sub, ab, col, dd, k0, k1, k2, k3, k5, at_C⟩ := T.cls
  refine wpAny_Call_Name_kw (ld_glob I hg hm ?_ hdb)
  refine callWith_K (h₀ := X.base) I.ok.mod.kin T.kC (thn (ha.run pos pins s σ H _ I h) fun us s1 ⟨vs, H1, I1, r1, hz, q1⟩ => ⟨I1.kIn, ?_⟩) he hpl
  show wpAny _ _ (call (.ref C) us) _ _ _
  obtain ⟨hp, g, dr, tk, os⟩ := s1
  have up1 : hp.objs.size ≤ hp.objs.size + 1 := Nat.le_succ _
  have free1 : H1 (hp.objs.size + 1) = none := I1.hok.fresh up1
  have want := q1 (hp.objs.size + 1) free1
  have kk : ∀ b o, hp.get? b = some o → ((hp.push (kdv_tup us)).push (excO C hp.objs.size)).get? b = some o := fun b o z => Heap.get?_push_of_some _ (Heap.get?_push_of_some _ z)
  have there : ((hp.push (kdv_tup us)).push (excO C hp.objs.size)).get? (hp.objs.size + 1) = some (excO C hp.objs.size) := by heap_get
  have I2 : Inv X pins σ (upd H1 (hp.objs.size + 1) (exo (hp.objs.size + 1) C none)) ⟨(hp.push (kdv_tup us)).push (excO C hp.objs.size), g, dr, tk, os⟩ :=
    I1.laid (t' := tk) (a := hp.objs.size + 1) (o := exo (hp.objs.size + 1) C none) (h' := (hp.push (kdv_tup us)).push (excO C hp.objs.size)) kk up1 (exo_ok there)
  have r2 : Vals (V.ref (hp.objs.size + 1) :: (vs ++ dvs)) (Value.ref (hp.objs.size + 1) :: (us ++ ds)) := .cons rfl (r1.append dflt)
  have many : (Value.ref (hp.objs.size + 1) :: us ++ ds).length = ps.length := by
    have z := r2.length
    rw [G.len _ _ _ _ want] at z
    exact z.symm
  have small : us.length ≤ sizeLine := by
    rw [← Paired.length r1, sizeLine_eq]
    omega
  refine wpAny_call (call_own F.excBase_OverflowError (fun Y => rfl) (I1.kIn _ _ at_C) (looks_findIn I1.kIn hasI) (fun self => bind_fn I1.kIn self isF) small
    (codeAny_mono (G.run _ X.stack _ _ ⟨Value.ref (hp.objs.size + 1) :: us, []⟩ (Value.ref (hp.objs.size + 1) :: (us ++ ds)) _ _ (fun _ _ _ => False) (room.make C us []) (I2.env0.make C us []) (bind _ (Value.ref (hp.objs.size + 1) :: us) I2.kIn many) r2 want) fun r s' hq' => ?_))
  cases r with
  | error er => exact pass pins σ _ _ er s' I2 hq'
  | ok fl =>
    cases fl with
    | ret u =>
      obtain ⟨v, H2, os2, bare2, un2, hok2, rv, ev, dd, fs, ea, ed, hd1, q2⟩ := hq'
      subst ev
      obtain ⟨h2, g2, d2, t2, os'⟩ := s'
      exact ⟨rv, mk_end (raises_own T.exC T.tyC) I1 up1 kk un2 hok2 os2 bare2 ea ed hd1 q2⟩
    | next => exact False.elim hq'
    | brk => exact False.elim hq'
    | cont => exact False.elim hq'
end
/-- all that is asked of the class x of such errors at C, whose field is f -/
structure OCls (P : Program) (w : World) (K : PySem.W.Frag) (mg : Str → Option Value) (base : Heap) (x f : Str) (C : Addr) : Prop where
  ox : OofC K C
  gC : mg x = some (.ref C)
  noA : findIn K (.ref C) f = some none
  ec : ExcC K C
  ini : ∃ (fI : Addr) (fd : FuncData), findIn K (.ref C) "__init__" = some (some (.ref fI)) ∧ typeIn K (.ref fI) = some (.type "function") ∧ FnOk P w K mg base CX0 1 fI fd ["self", f] (spXI C f) ∧ Binds K fd ["self", f] []
theorem OCls.xf {P : Program} {w : World} {K : PySem.W.Frag} {mg : Str → Option Value} {base : Heap} {x f : Str} {C : Addr} (T : OCls P w K mg base x f C) : XfC K C := ⟨T.ec.hg, T.ec.hk, T.ec.hs, T.ec.hd⟩
theorem pmk_O {X : Cx} {C : Addr} {x f : Str} {e : Expr} {te : TE} {p pos : Pos} (T : OCls X.prog X.w X.K X.mg X.base x f C) (room : Room 2 X.A) (he : PE X e te) (hg : Gl X x) (hdb : (x == ("__debug__" : Str)) = false := by decide)
    (hs : starEach [e] X.env = (false, eval e X.env) :: starEach [] X.env := by rfl) (hpl : (backTo pos (starEach [] X.env)).any (·.1) = false := by rfl) :
    PMk X (.Call (.Name x p) [e] [] pos) (tMkO C (spXI C f) [] (tCons te tNil)) := by
  obtain ⟨fI, fd, i1, i2, G, b⟩ := T.ini
  exact pmk_oof (dvs := []) (ds := []) T.ox i1 i2 G room b .nil pass0 hg T.gC (pa_cons he pa_nil hs) hdb hs hpl
/-- what the top has written of it -/
structure XOt (K : PySem.W.Frag) (mg : Str → Option Value) (x f : Str) (C : Addr) (st : Stmt) (qual : Str) : Prop where
  ox : OofC K C
  gC : mg x = some (.ref C)
  noA : findIn K (.ref C) f = some none
  ec : ExcC K C
  tI : ∃ fI, findIn K (.ref C) "__init__" = some (some (.ref fI)) ∧ typeIn K (.ref fI) = some (.type "function") ∧ ∃ fd, Fun K "__init__" qual st fI fd ∧ Binds K fd ["self", f] []
theorem XOt.cls {P : Program} {w : World} {K : PySem.W.Frag} {mg : Str → Option Value} {base : Heap} {x f : Str} {C : Addr} {st : Stmt} {qual : Str} (T : XOt K mg x f C st qual) (h : ∀ fI fd, Fun K "__init__" qual st fI fd → FnOk P w K mg base CX0 1 fI fd ["self", f] (spXI C f)) :
    OCls P w K mg base x f C := by
  obtain ⟨fI, i1, i2, fd, G, b⟩ := T.tI
  exact ⟨T.ox, T.gC, T.noA, T.ec, fI, fd, i1, i2, h fI fd G, b⟩
end L2

set_option Elab.async false
set_option linter.all false
set_option maxRecDepth 100000
/-! the bookkeeping of a walk over a list, whatever a turn's reading is -/
namespace L2
open PySem PySem.Spec PyProof.Rows
theorem steps_list {K : PySem.W.Frag} {a : Addr} {xs : List V} {H0 : Hp} {Qd : Hp → Prop} {step : V → Hp → (Hp → Prop) → Prop} (Pv : Nat → Hp → Prop) (h0 : Pv 0 H0) (hl : ∀ i H, i ≤ xs.length → Pv i H → SqL K H a xs)
    (hs : ∀ i x H, xs[i]? = some x → Pv i H → step x H (Pv (i + 1))) (hd : ∀ H, Pv xs.length H → Qd H) :
    ∃ W : Nat → Nat → Hp → Prop, (∃ m, W 0 m H0) ∧ ∀ i m H, W i m H →
      ((Itl K a).stop i H ∧ Qd H) ∨ ((Itl K a).go i H ∧ ∃ N : Hp → Prop, (∀ H', N H' → ∃ m', m' < m ∧ W (i + 1) m' H') ∧ ∀ x H', (Itl K a).yld i H x H' → step x H' N) := by
  refine ⟨fun i m H => m + i = xs.length ∧ Pv i H, ⟨xs.length, rfl, h0⟩, ?_⟩
  rintro i m H ⟨hm, pv⟩
  have q := hl i H (by omega) pv
  rcases Nat.lt_or_ge i xs.length with h | h
  · have hx : xs[i]? = some xs[i] := List.getElem?_eq_getElem h
    refine .inr ⟨⟨xs, xs[i], q, hx⟩, Pv (i + 1), fun H' pv' => ⟨m - 1, by omega, by omega, pv'⟩, fun x H' y => ?_⟩
    obtain ⟨y1, y2⟩ := y
    subst y1
    exact hs i x _ (y2 xs q) pv
  · obtain rfl : i = xs.length := by omega
    exact .inl ⟨⟨xs, q, Nat.le_refl _⟩, hd H pv⟩
def rLenK (K : PySem.W.Frag) : List V → Hp → VK → Prop := fun xs H Q => ∃ p ys, xs = [.ref p] ∧ (SqL K H p ys ∨ SqT K H p ys) ∧ Q (.int ys.length) H
theorem call_len_seqK {X : Cx} {K : PySem.W.Frag} (h : X.K = K) : CallR X (.builtin "len") (rLenK K) := by
  subst h
  exact call_len_seq
end L2

set_option Elab.async false
set_option linter.all false
set_option maxRecDepth 100000
set_option maxHeartbeats 4000000
/-! list(f(..)) of a generator def that may raise, in a try -/
namespace L2
open PySem PySem.Spec PyProof.Rows GenW
def tListGS (tg : XK → TGen) (E : St → XK) : TE := fun σ H Q => tg (E σ) σ H fun out H2 => ∀ p, H2 p = none → Q (.ref p) (upd H2 p (.lst out))
section
variable {X : Cx} {k : Nat} {p p2 pos pos2 : Pos} {e : Expr} {x nm : Str} {es : List Expr}
theorem pe_listGS {tg : XK → TGen} {E : St → XK} (made : ∀ E, PGen X k e (tg E) E) (pass : ∀ σ, PassesAt (CX X.prog X.w) X σ (E σ)) (nostop : ∀ σ, NoStop X.K (E σ)) (room : Room (k + 3) X.A) (hg : Gl X nm) (hmg : X.mg nm = none) (hv : bootBuiltins nm = some (.type "list"))
    (hnm : nm ≠ "__name__" := by decide) (hdb : (nm == ("__debug__" : Str)) = false := by decide) (he : starEach [e] X.env = (false, eval e X.env) :: starEach [] X.env := by rfl) : PE X (.Call (.Name nm p) [e] [] pos) (tListGS tg E) := by
  refine ⟨fun pins st σ H Q I want => ?_⟩
  refine wpAny_Call_Name_kw (ld_blt I hg hmg hv ?_ hnm hdb)
  refine PyProof.Rows.callWith_type1 ?_ he rfl
  rw [he]
  show wpAny _ _ (spliced ((false, eval e X.env) :: backTo pos (starEach [] X.env))) _ _ st
  refine Calls.spliced_cons (thn ((made (E σ)).run pins st σ H _ I want) fun u st1 ⟨H1, sc, ex, I1, exOk, gen⟩ => ?_)
  refine Calls.spliced_nil ?_
  have grown : sc.heap.objs.size ≤ st1.heap.objs.size := by
    obtain ⟨a, g, c, _, g1, g2, _⟩ := gen
    exact Nat.le_trans g1 (Nat.le_of_lt g2)
  refine call_list_new room I1.ok.frames gen (fun S st2 acc c H' ys a0 a1 a2 a3 a4 a5 a6 a7 a8 a9 => ?_) fun er st2 g left => ?_
  · exact ⟨.ref S, upd H' S (.lst ys), I1.drained (Nat.le_trans grown a0) a3 a1 a2 exOk a4 a5 a6 a7 a8, rfl, a9 S a8⟩
  · have kin : X.K.In st2.heap := by
      obtain ⟨a, B, H', cls, d, _, fl, _, ub, _⟩ := id left
      refine I1.ok.mod.kin.keeps fun b o eb => fl.1 b o (ub.keep b o (I1.bs b o eb).1 (I1.bs b o eb).2 fun hm => ?_)
      rcases List.mem_cons.mp (I1.stkSub b hm) with z | z
      · have z1 := Heap.lt_size eb
        have z2 := Nat.le_trans I1.ok.bsz I1.ok.above
        rw [z] at z1
        exact absurd (Nat.lt_of_lt_of_le z1 z2) (Nat.lt_irrefl _)
      · exact I1.ok.nofr eb z
    refine ⟨notStop_of (nostop σ) kin left, pass σ pins H1 sc er _ I1 ?_⟩
    obtain ⟨a, B, H', cls, d, z1, fl, z2, ub, z3, z4, z5, z6⟩ := left
    exact ⟨a, B, H', cls, d, z1, fl, z2, ub, z3, z4, allBare_setGen z5 rfl, z6⟩
/-- what is wished for, of errors that are no StopIteration -/
def noStopW (K : PySem.W.Frag) (W : WX) : WX := fun cls d σ H => PySem.W.subIn K cls (.type "StopIteration") = some false ∧ W cls d σ H
theorem pe_listOwnGS {ps : List Str} {sp : SpG} {t : TA} {W : WX} (O : OwnG X.prog X.w X.K X.mg X.base x k ps sp) (room : Room (k + 3) X.A) (tk : Takes X W) (ha : PA X (e :: es) t) (hmg : X.mg nm = none) (hgl : Gl X nm := by rfl) (hg : Gl X x := by rfl) (hv : bootBuiltins nm = some (.type "list") := by decide +kernel)
    (hnm : nm ≠ "__name__" := by decide) (hdb : (nm == ("__debug__" : Str)) = false := by decide) (hdb2 : (x == ("__debug__" : Str)) = false := by decide)
    (he : starEach (e :: es) X.env = (false, eval e X.env) :: starEach es X.env := by rfl) (hpl : (backTo pos (starEach es X.env)).any (·.1) = false := by rfl)
    (he2 : starEach [Expr.Call (.Name x p) (e :: es) [] pos] X.env = (false, eval (Expr.Call (.Name x p) (e :: es) [] pos) X.env) :: starEach [] X.env := by rfl) :
    PE X (.Call (.Name nm p2) [.Call (.Name x p) (e :: es) [] pos] [] pos2) (tListGS (fun E => tCallG sp [] E t) (WE (noStopW X.K W))) := by
  obtain ⟨f, fd, F, hm, hk, hb⟩ := O.ex
  exact pe_listGS (fun E => pgen_call (E := E) F (room.mono (by omega)) hg hm hk hb .nil ha hdb2 he hpl) (fun σ => passAt (tk.imp fun _ _ _ _ h => h.2) σ) (fun σ cls d H h => h.1) room hgl hmg hv hnm hdb he2
theorem pe_listOwnGSK {K : PySem.W.Frag} {ps : List Str} {sp : SpG} {t : TA} {W : WX} (hK : X.K = K) (O : OwnG X.prog X.w X.K X.mg X.base x k ps sp) (room : Room (k + 3) X.A) (tk : Takes X W) (ha : PA X (e :: es) t) (hmg : X.mg nm = none) (hgl : Gl X nm := by rfl) (hg : Gl X x := by rfl) (hv : bootBuiltins nm = some (.type "list") := by decide +kernel)
    (hnm : nm ≠ "__name__" := by decide) (hdb : (nm == ("__debug__" : Str)) = false := by decide) (hdb2 : (x == ("__debug__" : Str)) = false := by decide)
    (he : starEach (e :: es) X.env = (false, eval e X.env) :: starEach es X.env := by rfl) (hpl : (backTo pos (starEach es X.env)).any (·.1) = false := by rfl)
    (he2 : starEach [Expr.Call (.Name x p) (e :: es) [] pos] X.env = (false, eval (Expr.Call (.Name x p) (e :: es) [] pos) X.env) :: starEach [] X.env := by rfl) :
    PE X (.Call (.Name nm p2) [.Call (.Name x p) (e :: es) [] pos] [] pos2) (tListGS (fun E => tCallG sp [] E t) (WE (noStopW K W))) := by
  subst hK
  exact pe_listOwnGS O room tk ha hmg hgl hg hv hnm hdb hdb2 he hpl he2
end
section
variable {X : Cx} {K : PySem.W.Frag}
theorem op_ltTK (h : X.K = K) (hu : X.A.units < cLine) : OpR X (compareOp .Lt) (rLtT K) := by
  subst h
  exact op_ltT hu
end
end L2

set_option Elab.async false
set_option linter.all false
set_option maxRecDepth 100000
set_option maxHeartbeats 4000000
/-! set(list of ints) as a value; a tuple read backwards -/
namespace L2
open PySem PySem.Spec PyProof.Rows
section
variable {P : Program} {w : World} {A : Around} {E : Value → Shared → Prop} {s : Shared}
/-- the object that set(..) begins with -/
abbrev bareSet (w : World) : Obj := { cls := .type "set", dict := none, data := .set #[] 0 (.fresh 0 0 (!w.params.followText "set-order")) }
theorem set_of_list {l : Addr} {items : Array Value} (ns : List Int) {Q : Value → Shared → Prop} (calm : A.handled = none) (isL : s.heap.IsList l items) (areI : IntsAre items.toList ns) (few : ns.length + 1 < scanBound)
    (goal : ∀ (hp : Heap) (tk c : Nat), SetR w hp s.heap.objs.size (fun j => decide (j ∈ ns)) c → c ≤ ns.length → (∀ b o, s.heap.get? b = some o → hp.get? b = some o) → Q (.ref s.heap.objs.size) { s with heap := hp, toks := tk }) :
    wpAny (model P w) A (call (.type "set") [.ref l]) Q E s := by
  have same : items.size = ns.length := by
    have z := IntsAre.length areI
    rw [Array.length_toList] at z
    exact z
  obtain ⟨c, tl, mroS⟩ := F.called_set.mro
  have madeS := F.called_set.made
  have subS := F.called_set.sub
  refine wpAny_call (codeAny_of_tree ?_)
  show wpAny _ _ (callAny (.type "set") _) _ _ _
  refine wpAny_pure ⟨Code.quiet_builtin _ (by decide +kernel), codeAny_builtin F.entry_type_call ?_⟩
  rw [Around.under_plain (weight_type_call_type "set" [.ref l] []) rfl]
  have noT := F.called_set.notType
  have canC := F.called_set.canCreate
  have tcs := F.typeCall_set_1 (.ref l)
  repeat (any_goals (first | assumption | wp_step))
  refine codeAny_mono (code_set_led1 (.ref l) (E := E) (Q₁ := fun v st => v = .ref s.heap.objs.size ∧ st = { s with heap := s.heap.push (bareSet w) }) ⟨rfl, rfl⟩) fun r st back => ?_
  cases r with
  | error e => exact back
  | ok fl =>
    cases fl with
    | next => exact back.elim
    | brk => exact back.elim
    | cont => exact back.elim
    | ret v =>
      obtain ⟨rfl, rfl⟩ := back
      have atS : (s.heap.push (bareSet w)).get? s.heap.objs.size = some (bareSet w) := Heap.get?_push_size _ rfl
      have tyS : Shared.TypeIs { s with heap := s.heap.push (bareSet w) } (.ref s.heap.objs.size) "set" := ⟨_, atS, rfl⟩
      have iniL := F.called_set.init.lookup
      have iniB := F.called_set.init.bind (.ref s.heap.objs.size)
      repeat (any_goals (first | assumption | wp_step))
      refine codeAny_mono (codeAny_call_builtin (R := wants (fun r st2 => r = .none ∧ ∃ hp tk c, st2 = { s with heap := hp, toks := tk } ∧ SetR w hp s.heap.objs.size (fun j => decide (j ∈ ns)) c ∧ c ≤ ns.length ∧
        (∀ b o, s.heap.get? b = some o → hp.get? b = some o)) E) F.called_set.init.plain F.entry_set_init (check_set_init_1 tyS ?_)) fun r2 st2 back2 => ?_
      · obtain ⟨ol, atL, clL, nl, daL⟩ := isL
        obtain ⟨o1, o2, o3, o4⟩ := ol
        simp only at clL daL
        subst clL; subst daL
        have atL2 : (s.heap.push (bareSet w)).get? l = some { cls := .type "list", dict := o2, data := .seq items nl, slots := o4 } := Heap.get?_push_of_some _ atL
        have sub1 := F.sub_list_set
        have sub2 := F.sub_list_frozenset
        have ne1 : (Value.type "list" == Value.type "dict") = false := by decide
        have isL2 : (s.heap.push (bareSet w)).IsList l items := ⟨_, atL2, rfl, nl, rfl⟩
        unfold Builtin.«set.__init__» noKeywords Builtin.Frozenset.updateFrom
        generalize hold : pyIter = PI
        wp_walk
        subst hold
        refine wpAny_pyIter_list isL2 ?_
        refine wpAny_bind (wpAny_runValue ?_)
        have below : l < s.heap.objs.size := Heap.lt_size atL
        have calm3 : A.in1.in1.in1.handled = none := by simp [calm]
        have apart : l ≠ (s.heap.push (bareSet w)).objs.size := by
          rw [Heap.size_push]
          exact Nat.ne_of_lt (Nat.lt_succ_of_lt below)
        have outside : s.heap.objs.size ∉ [(s.heap.push (bareSet w)).objs.size, l] := by
          rw [Heap.size_push]
          simp only [List.mem_cons, List.mem_singleton, List.not_mem_nil, or_false, not_or]
          exact ⟨Nat.ne_of_lt (Nat.lt_succ_self _), Nat.ne_of_gt below⟩
        have each : ∀ (i : Nat) (v : Value), items[i]? = some v → ∃ k t, ns[i]? = some k ∧ v = .int k t := fun i v hv => by
          have hi : i < ns.length := by rw [← same]; exact (Array.getElem?_eq_some_iff.mp hv).1
          obtain ⟨t, e⟩ := PyProof.Rows.IntsAre.int_at areI i v (by rw [Array.getElem?_toList]; exact hv)
          refine ⟨ns[i], t, List.getElem?_eq_getElem hi, ?_⟩
          rw [e, List.getD_eq_getElem?_getD, List.getElem?_eq_getElem hi] <;> rfl
        refine set_update_ints ((Walks.list calm3 _ l apart items).toS) s.heap.objs.size outside ns same few each (items.size - 0) 0 _ (by omega) (Nat.zero_le _) ⟨⟨_, Heap.get?_push_size _ rfl, rfl, rfl⟩, (isL2.push _)⟩ ?begin ?done
        case begin => exact ⟨0, Nat.le_refl 0, setR_new_at (Heap.get?_push_of_some _ atS)⟩
        case done =>
          intro st3 c3 mv lec isS
          obtain ⟨hp, g3, d3, tk, os3⟩ := st3
          have eg : g3 = s.gens := mv.gens
          have ed : d3 = s.drawn := mv.drawn
          have eo : os3 = s.os := mv.os
          subst eg; subst ed; subst eo
          show wpAny _ _ _ _ _ _
          refine wpAny_pure ?_
          show wpAny _ _ (ret Value.none) _ _ _
          rw [same] at lec
          refine wpAny_pure ⟨rfl, hp, tk, c3, rfl, isS, lec, fun b o e => ?_⟩
          have b0 : b < s.heap.objs.size := Heap.lt_size e
          have b2 : b ≠ (s.heap.push (bareSet w)).objs.size := by
            rw [Heap.size_push]
            exact Nat.ne_of_lt (Nat.lt_succ_of_lt b0)
          exact mv.heap b o (by simp only [List.mem_cons, List.mem_singleton, List.not_mem_nil, or_false, not_or]; exact ⟨Nat.ne_of_lt b0, b2⟩) (Heap.get?_push_of_some _ (Heap.get?_push_of_some _ e))
      · cases r2 with
        | error e => exact back2
        | ok fl2 =>
          cases fl2 with
          | next => exact back2.elim
          | brk => exact back2.elim
          | cont => exact back2.elim
          | ret r =>
            obtain ⟨rfl, hp, tk, c3, rfl, isS, lec, keep⟩ := back2
            repeat (any_goals (first | assumption | wp_step))
            exact goal _ _ _ isS lec keep
end
def rSetLI (K : PySem.W.Frag) (w : World) : List V → Hp → VK → Prop := fun xs H Q => ∃ (l : Addr) (ns : List Int), xs = [.ref l] ∧ SqL K H l (ns.map V.int) ∧ ns.length ≤ 60 ∧ ∀ p c, H p = none → c ≤ ns.length → Q (.ref p) (upd H p (SetO w p (fun j => decide (j ∈ ns)) c))
theorem cr_setLI {X : Cx} (hc : X.calm = true) : CallR X (.type "set") (rSetLI X.K X.w) := by
  intro pins s σ H xs us Q I r h
  obtain ⟨l, ns, rfl, hq, small, q⟩ := h
  obtain ⟨u, rfl, rx⟩ := vals1 r
  cases rx
  obtain ⟨its, r2, pl, _⟩ := I.list hq
  refine set_of_list ns (I.ok.hd hc) pl.isList (by simpa using intsAre_of r2) (by unfold scanBound; omega) fun hp tk c isS lec keep => ?_
  exact ⟨.ref s.heap.objs.size, _, I.laid (t' := tk) keep (Nat.le_refl _) (setO_new isS), rfl, q _ c (I.hok.fresh (Nat.le_refl _)) lec⟩
end L2

set_option Elab.async false
set_option linter.all false
set_option maxRecDepth 100000
set_option maxHeartbeats 4000000
namespace L2
open PySem PySem.Spec PyProof.Rows
theorem back_places (n : Nat) : Builtin.Slice.slicePlaces ((n : Int) - 1) (-1) (-1) = n := by
  unfold Builtin.Slice.slicePlaces
  rw [if_neg (by omega)]
  by_cases h : ((n : Int) - 1) > -1
  · rw [if_pos h]
    have : ((n : Int) - 1 - -1 - 1) / (- -1) + 1 = (n : Int) := by
      rw [Int.neg_neg, Int.ediv_one]
      omega
    rw [this]
    exact Int.toNat_natCast n
  · rw [if_neg h]
    have : n = 0 := by omega
    rw [this]
    rfl
theorem back_pick (xs : Array Value) : ((List.range xs.size).filterMap fun (m : Nat) => xs[(((xs.size : Int) - 1) + (m : Int) * (-1)).toNat]?).toArray = xs.toList.reverse.toArray := by
  congr 1
  refine List.ext_getElem? fun i => ?_
  have hall : ∀ k, k ≤ xs.size → (List.range k).filterMap (fun (m : Nat) => xs[(((xs.size : Int) - 1) + (m : Int) * (-1)).toNat]?) = xs.toList.reverse.take k := fun k => by
    induction k with
    | zero => intro _; rfl
    | succ k ih =>
      intro hk
      rw [List.range_succ, List.filterMap_append, ih (by omega), List.take_add_one]
      congr 1
      have hi : (((xs.size : Int) - 1) + (k : Int) * (-1)).toNat = xs.size - 1 - k := by omega
      have hlt : xs.size - 1 - k < xs.size := by omega
      have hr : xs.toList.reverse[k]? = some xs[xs.size - 1 - k] := by
        rw [List.getElem?_reverse (by rw [Array.length_toList]; omega), Array.length_toList, Array.getElem?_toList]
        exact Array.getElem?_eq_getElem hlt
      rw [hr, List.filterMap_cons, hi, Array.getElem?_eq_getElem hlt]
      rfl
  rw [hall xs.size (Nat.le_refl _), List.take_of_length_le (by rw [List.length_reverse, Array.length_toList]; exact Nat.le_refl _)]
section
variable {prog : Program} {w : World} {A : Around} {E : Value → Shared → Prop} {s : Shared}
theorem slice_back {sl : Addr} {v1 v2 v3 : Value} {n : Nat} {Q : Int × Int × Nat → Shared → Prop} (isS : s.heap.IsSliceOf sl v1 v2 v3) (p1 : IsPart v1 none) (p2 : IsPart v2 none) (p3 : IsPart v3 (some (-1))) (goal : Q ((n : Int) - 1, -1, n) s) :
    wpAny (model prog w) A (Builtin.Slice.sliceApplied (.ref sl) (pure (n : Int))) Q E s := by
  obtain ⟨os, atS, clS, daS⟩ := id isS
  unfold Builtin.Slice.sliceApplied Builtin.Slice.sliceFields
  refine wpAny_bind (wpAny_bind (wpAny_field atS daS (x := v1) rfl (wpAny_bind (wpAny_field atS daS (x := v2) rfl (wpAny_bind (wpAny_field atS daS (x := v3) rfl (wpAny_pure ?_)))))))
  refine wpAny_bind (HT.slicePart_ p3 ?_)
  show wpAny _ _ (if ((-1 : Int) == 0) = true then _ else _) _ _ s
  rw [if_neg (by decide)]
  refine wpAny_bind (HT.slicePart_ p1 (wpAny_bind (HT.slicePart_ p2 (wpAny_bind (wpAny_pure ?_)))))
  show wpAny _ _ (pure ((n : Int) - 1, (-1 : Int), Builtin.Slice.slicePlaces ((n : Int) - 1) (-1) (-1))) _ _ s
  rw [back_places]
  exact wpAny_pure goal
theorem tuple_back {t sl : Addr} {items : Array Value} {v1 v2 v3 : Value} {Q : Value → Shared → Prop} (isT : IsTup s.heap t items) (isS : s.heap.IsSliceOf sl v1 v2 v3) (p1 : IsPart v1 none) (p2 : IsPart v2 none) (p3 : IsPart v3 (some (-1)))
    (goal : Q (.ref s.heap.objs.size) { s with heap := s.heap.push { cls := .type "tuple", data := .seq items.toList.reverse.toArray } }) (fits : items.size ≤ sizeLine) : wpAny (model prog w) A (getItem (.ref t) (.ref sl)) Q E s := by
  have okR : sizeOk (.seq items.toList.reverse.toArray) := by
    show items.toList.reverse.toArray.size ≤ sizeLine
    rw [List.size_toArray, List.length_reverse, Array.length_toList]
    exact fits
  obtain ⟨os, atS, clS, daS⟩ := id isS
  have tyS : s.TypeIs (.ref sl) "slice" := ⟨os, atS, clS⟩
  unfold getItem
  try with_reducible refine wpAny_holding ?_
  first | refine wpAny_bind (wpAny_pure ?_) | skip
  refine wpAny_bind (wpAny_sequenceKey isT.typeIs (by decide) ?_)
  refine wpAny_bind (wpAny_callSpecial?_slot (name := Str.ofString "__getitem__") isT.typeIs PyProof.Rows.slot_tuple_getitem (wpAny_call_entry PyProof.Rows.slot_tuple_getitem isT.typeIs entry_tuple_getitem ?_ (args_tuple_getitem _ _)))
  show wpAny _ _ (Builtin.Tuple.tupleItemsOf (.ref t) >>= _) _ _ s
  refine wpAny_bind (tupleItemsOf_ isT ?_)
  refine wpAny_bind (wpAny_typeOf tyS ?_)
  rw [if_pos (by decide)]
  refine wpAny_bind (slice_back isS p1 p2 p3 ?_)
  have no : ¬ ((((items.size : Int) - 1) == 0 && (-1 : Int) == 1 && items.size == items.size) = true) := by
    rw [show ((-1 : Int) == 1) = false by decide, Bool.and_false, Bool.false_and]
    exact Bool.false_ne_true
  show wpAny _ _ (if (((items.size : Int) - 1) == 0 && (-1 : Int) == 1 && items.size == items.size) = true then _ else _) _ _ s
  rw [if_neg no, back_pick]
  first
    | exact wpAny_bind (m := Builtin.Tuple.tupleExact _) (wpAny_newObj_type (wpAny_pure ⟨_, rfl, wpAny_pure goal⟩) okR)
    | exact wpAny_bind (m := Builtin.Tuple.tupleExact _) (wpAny_newObj_type (wpAny_bind (wpAny_pure (wpAny_pure ⟨_, rfl, wpAny_pure goal⟩))) okR)
    | exact wpAny_bind (wpAny_bind (m := Builtin.Tuple.tupleExact _) (wpAny_newObj_type (wpAny_pure (wpAny_pure ⟨_, rfl, wpAny_pure goal⟩)) okR))
    | exact wpAny_bind (wpAny_bind (m := Builtin.Tuple.tupleExact _) (wpAny_newObj_type (wpAny_pure ⟨_, rfl, wpAny_pure goal⟩) okR))
end
/-- t[::-1] -/
def tRevT (K : PySem.W.Frag) (te : TE) : TE := fun σ H Q => te σ H fun x H1 => ∃ a xs, x = .ref a ∧ SqT K H1 a xs ∧ ∀ p, H1 p = none → Q (.ref p) (upd H1 p (.tup xs.reverse))
theorem pe_revT {X : Cx} {e : Expr} {te : TE} {k : Nat} {p1 p2 p3 pos : Pos} (he : PE X e te) : PE X (.Subscript e (.Slice none none (some (.UnaryOp .USub (.Constant (.int 1) k p1) p2)) p3) pos) (tRevT X.K te) := by
  refine ⟨fun pins st σ H Q I want => ?_⟩
  refine Subscript_ (thn (he.run pins st σ H _ I want) fun v s1 ⟨x, H1, I1, r1, q1⟩ => ?_)
  obtain ⟨a, xs, ex, isT, q⟩ := q1
  subst ex
  cases r1
  have step : PO X (some (.UnaryOp .USub (.Constant (.int 1) k p1) p2)) (tPart (tUn (rU fun i => .int (-i)) (tC (.int 1)))) := po_some (pe_un un_neg pe_int)
  refine wpAny_Slice (thn (po_none.run pins s1 σ H1 (fun o H2 => o = none ∧ H2 = H1) I1 ⟨rfl, rfl⟩) fun vl s2 ⟨l, H2, I2, pl, el, e2⟩ => ?_)
  subst el e2
  refine thn (po_none.run pins s2 σ H2 (fun o H3 => o = none ∧ H3 = H2) I2 ⟨rfl, rfl⟩) fun vu s3 ⟨u, H3, I3, pu, eu, e3⟩ => ?_
  subst eu e3
  refine thn (step.run pins s3 σ H3 (fun o H4 => o = some (-1) ∧ H4 = H3) I3 ⟨1, rfl, -1, rfl, rfl, rfl⟩) fun vs s4 ⟨o, H4, I4, ps, eo, e4⟩ => ?_
  subst eo e4
  have I5 : Inv X pins σ H4 { s4 with heap := s4.heap.push { cls := .type "slice", data := .fields #[vl, vu, vs] } } := I4.kept (t' := s4.toks) fun b ob z => Heap.get?_push_of_some _ z
  obtain ⟨its, r, ht, hz⟩ := I5.tuple isT
  have many := r.length
  show wpAny (model X.prog X.w) X.A (subscriptTail e (.Slice none none (some (.UnaryOp .USub (.Constant (.int 1) k p1) p2)) p3) (.ref a) (.ref s4.heap.objs.size)) (EP X pins σ Q) X.xe { s4 with heap := s4.heap.push { cls := .type "slice", data := .fields #[vl, vu, vs] } }
  refine tail_any (ops := [.ref a, .ref s4.heap.objs.size]) ht.typeIs (PyProof.Rows.slot_tuple_getitem.lookup) ?_ (by with_unfolding_all rfl)
  refine tuple_back ht (Heap.IsSliceOf.new _ vl vu vs) pl pu ps ?_ (by rw [List.size_toArray]; omega)
  refine ⟨.ref _, _, I5.laid (t' := s4.toks) (o := .tup xs.reverse) (fun b ob z => Heap.get?_push_of_some _ z) (Nat.le_refl _) ?_, rfl, q _ (I5.hok.fresh (Nat.le_refl _))⟩
  exact ⟨by rw [List.length_reverse]; exact hz, _, r.reverse, IsTup.new _ _⟩
end L2

set_option Elab.async false
set_option linter.all false
set_option maxRecDepth 100000
/-! len of a set of ints: as many as its members -/
namespace L2
open PySem PySem.Spec PyProof.Rows
def rLenSetO (w : World) : List V → Hp → VK → Prop := fun xs H Q => ∃ (a : Addr) (S : Int → Bool) (n : Nat), xs = [.ref a] ∧ H a = some (SetO w a S n) ∧ n ≤ 1000 ∧ ((∃ l : List Int, l.Nodup ∧ l.length = n ∧ ∀ k, k ∈ l ↔ S k = true) → Q (.int n) H)
theorem cr_lenSetO {X : Cx} : CallR X (.builtin "len") (rLenSetO X.w) := by
  intro pins s σ H xs us Q I r h
  obtain ⟨a, S, n, rfl, ha, h64, q⟩ := h
  have R := setO_get I ha
  rw [Vals.ref1 r]
  obtain ⟨o, es, ep, t, ho, hex, hd, g, nd, hm, hb, hf, hn, hr, hl⟩ := R
  refine call_len_set ho hex hd hf (by rw [hn]; omega) ⟨.int n, H, I.tok _, ⟨_, by rw [hn]⟩, q ⟨es.toList.map keyOf, nd, ?_, fun k => (hm k).symm⟩⟩
  rw [List.length_map, Array.length_toList]
  exact hn
/-- the bookkeeping of a walk over a range, whatever a turn's reading is -/
theorem steps_range {lo : Int} {n : Nat} {H0 : Hp} {Qd : Hp → Prop} {step : V → Hp → (Hp → Prop) → Prop} (Pv : Nat → Hp → Prop) (h0 : Pv 0 H0)
    (hs : ∀ i H, i < n → Pv i H → step (.int (lo + i)) H (Pv (i + 1))) (hd : ∀ H, Pv n H → Qd H) :
    ∃ W : Nat → Nat → Hp → Prop, (∃ m, W 0 m H0) ∧ ∀ i m H, W i m H →
      ((Itr lo n).stop i H ∧ Qd H) ∨ ((Itr lo n).go i H ∧ ∃ N : Hp → Prop, (∀ H', N H' → ∃ m', m' < m ∧ W (i + 1) m' H') ∧ ∀ x H', (Itr lo n).yld i H x H' → step x H' N) := by
  refine ⟨fun i m H => m = n - i ∧ i ≤ n ∧ Pv i H, ⟨n, by simp, Nat.zero_le _, h0⟩, ?_⟩
  rintro i m H ⟨rfl, hi, p⟩
  by_cases hlt : i < n
  · refine .inr ⟨hlt, Pv (i + 1), fun H' p' => ⟨n - (i + 1), by omega, rfl, hlt, p'⟩, fun x H' y => ?_⟩
    obtain ⟨e, y⟩ := y
    subst e y
    exact hs i _ hlt p
  · obtain rfl : i = n := by omega
    exact .inl ⟨Nat.le_refl _, hd H p⟩
end L2

set_option Elab.async false
set_option linter.all false
set_option maxRecDepth 100000
set_option maxHeartbeats 4000000
/-! zip of two things, each a list or a tuple -/
namespace L2
open PySem PySem.Spec PyProof.Rows
def SqB (K : PySem.W.Frag) (t : Bool) (H : Hp) (a : Addr) (xs : List V) : Prop := match t with | true => SqT K H a xs | false => SqL K H a xs
def SeqB (h : Heap) (t : Bool) (a : Addr) (items : Array Value) : Prop := match t with | true => h.IsTuple a items | false => h.IsList a items
def IterB (h : Heap) (t : Bool) (it a : Addr) (i : Nat) : Prop := match t with | true => h.IsTupleIter it a i | false => h.IsListIter it a i
def obB (t : Bool) (a : Addr) : Obj := match t with | true => { cls := .type "tuple_iterator", data := .fields #[.ref a, .int 0 0] } | false => { cls := .type "list_iterator", data := .fields #[.ref a, .int 0 0] }
theorem drawsB {prog : Program} {w : World} {A : Around} (t : Bool) (hh : A.handled = none) (it l : Addr) (hne : l ≠ it) (items : Array Value) :
    Draws prog w A it [it, l] items.size (fun i v => items[i]? = some v) (fun i h => IterB h t it l i ∧ SeqB h t l items) := by
  cases t with
  | true => exact Draws.tuple hh it l hne items
  | false => exact Draws.list hh it l hne items
theorem beginsB (t : Bool) (l : Addr) (items : Array Value) : Begins (.ref l) (obB t l) (fun h => SeqB h t l items) := by
  cases t with
  | true => exact begins_tuple l items
  | false => exact begins_list l items
theorem iterB_new {h : Heap} {t : Bool} {it l : Addr} (e : h.get? it = some (obB t l)) : IterB h t it l 0 := by
  cases t with
  | true => exact ⟨_, e, rfl, rfl⟩
  | false => exact ⟨_, e, rfl, rfl⟩
theorem IterB.live {h : Heap} {t : Bool} {it a : Addr} {i : Nat} (q : IterB h t it a i) : ∃ o, h.get? it = some o ∧ ∀ v, o.data ≠ .cell v := by
  cases t with
  | true =>
    obtain ⟨o, e, _, d⟩ := q
    exact ⟨o, e, fun v q => by rw [d] at q; cases q⟩
  | false =>
    obtain ⟨o, e, _, d⟩ := q
    exact ⟨o, e, fun v q => by rw [d] at q; cases q⟩
theorem IterB.at {h h' : Heap} {t : Bool} {it a : Addr} {i : Nat} (q : IterB h t it a i) (k : ∀ o, h.get? it = some o → h'.get? it = some o) : IterB h' t it a i := by
  cases t with
  | true => exact Heap.IsTupleIter.at q k
  | false => exact Heap.IsListIter.at q k
theorem SeqB.lt {h : Heap} {t : Bool} {a : Addr} {items : Array Value} (q : SeqB h t a items) : a < h.objs.size := by
  cases t with
  | true =>
    obtain ⟨o, e, _⟩ := q
    exact Heap.lt_size e
  | false =>
    obtain ⟨o, e, _⟩ := q
    exact Heap.lt_size e
section
variable {X : Cx} {pins : List (Addr × Obj)} {σ : St} {H : Hp} {s : Shared}
theorem inv_seqB {t : Bool} {a : Addr} {xs : List V} (I : Inv X pins σ H s) (q : SqB X.K t H a xs) : ∃ its : List Value, Vals xs its ∧ SeqB s.heap t a its.toArray := by
  cases t with
  | true =>
    obtain ⟨its, rv, p, _⟩ := I.tuple q
    exact ⟨its, rv, p⟩
  | false =>
    obtain ⟨its, rv, p, _⟩ := I.list q
    exact ⟨its, rv, p.isList⟩
theorem inv_injB {t : Bool} {a : Addr} {xs ys : List V} (I : Inv X pins σ H s) (q : SqB X.K t H a xs) (q' : SqB X.K t H a ys) : xs = ys := by
  cases t with
  | true => exact I.tuple_inj q q'
  | false => exact I.list_inj q q'
end
theorem SqB.ext {K : PySem.W.Frag} {t : Bool} {H H' : Hp} {a : Addr} {xs : List V} (q : SqB K t H a xs) (e : Ext H H') : SqB K t H' a xs := by
  cases t with
  | true => exact SqT.ext q e
  | false => exact SqL.ext q e
/-- the two things as they stand at each turn, the items in new pairs -/
def ItzB (K : PySem.W.Frag) (t1 t2 : Bool) (a b : Addr) : It :=
  ⟨fun i H => ∃ (xs ys : List V), SqB K t1 H a xs ∧ SqB K t2 H b ys ∧ i < xs.length ∧ i < ys.length,
    fun i H v H' => ∃ T x y, v = .ref T ∧ H T = none ∧ H' = upd H T (.tup [x, y]) ∧ (∀ xs, SqB K t1 H a xs → xs[i]? = some x) ∧ ∀ ys, SqB K t2 H b ys → ys[i]? = some y,
    fun i H => ∃ xs ys : List V, SqB K t1 H a xs ∧ SqB K t2 H b ys ∧ i = min xs.length ys.length⟩
theorem turn_zipB {P : Program} {w : World} {K : PySem.W.Frag} {elts : List Expr} {kk : Nat} {tpos : Pos} {t1 t2 : Bool} {a b z TI TO i1 i2 : Addr} (D : ZipApart z TI TO i1 i2 a b) :
    Turn P w K (.Tuple elts kk tpos) (ItzB K t1 t2 a b) [z, TI, TO, i1, i2] z (fun i h => IsZip h z TI TO .none ∧ IsTupOf2 h TI (.ref i1) (.ref i2) ∧ (∃ x y, IsTupOf2 h TO x y) ∧ IterB h t1 i1 a i ∧ IterB h t2 i2 b i) where
  mem := by simp
  obj := fun i h st c hc => by
    obtain ⟨hz, hTI, ⟨x, y, hTO⟩, h1, h2⟩ := st
    have e' : c = z ∨ c = TI ∨ c = TO ∨ c = i1 ∨ c = i2 := by simpa using hc
    rcases e' with q | q | q | q | q
    · rw [q]; exact ⟨_, hz, fun v q => nomatch q⟩
    · rw [q]; exact ⟨_, hTI, fun v q => nomatch q⟩
    · rw [q]; exact ⟨_, hTO, fun v q => nomatch q⟩
    · rw [q]; exact h1.live
    · rw [q]; exact h2.live
  keep := fun i h h' st k => by
    obtain ⟨hz, hTI, ⟨x, y, hTO⟩, h1, h2⟩ := st
    exact ⟨k z (by simp) _ hz, k TI (by simp) _ hTI, ⟨x, y, k TO (by simp) _ hTO⟩, h1.at fun o q => k i1 (by simp) o q, h2.at fun o q => k i2 (by simp) o q⟩
  item := by
    intro X hP hw hK hc i pins s σ H E I hf st hg
    subst hP hw hK
    obtain ⟨hz, hTI, ⟨x0, y0, hTO⟩, h1, h2⟩ := st
    obtain ⟨xs, ys, hqx, hqy, hx, hy⟩ := hg
    obtain ⟨its, rv, p⟩ := inv_seqB I hqx
    obtain ⟨its2, rv2, p2⟩ := inv_seqB I hqy
    have l1 := rv.length
    have l2 := rv2.length
    have hzl : z < s.heap.objs.size := Heap.lt_size hz
    have Sp : ZipSep2 z TI TO i1 i2 [i1, a] [i2, b] := ⟨D.TIz, D.TOz, D.TITO, D.TIi1, by simp, by simp [Ne.symm D.i1z, Ne.symm D.l1z], by simp [D.TOi1, Ne.symm D.l1TO], D.TIi2, by simp, by simp [Ne.symm D.i2z, Ne.symm D.l2z], by simp [D.TOi2, Ne.symm D.l2TO], by simp [D.i12, Ne.symm D.l2i1], by simp [Ne.symm D.i12, Ne.symm D.l1i2]⟩
    have D1 := drawsB (prog := X.prog) (w := X.w) (A := X.A.in1) t1 (show X.A.in1.handled = none from I.ok.hd hc) i1 a D.l1i1 its.toArray
    have D2 := drawsB (prog := X.prog) (w := X.w) (A := X.A.in1) t2 (show X.A.in1.handled = none from I.ok.hd hc) i2 b D.l2i2 its2.toArray
    refine wpAny_pyNext_zipD2_item Sp D1 D2 hz hTI hTO ⟨h1, p⟩ ⟨h2, p2⟩ (by simp; omega) (by simp; omega) fun u u2 h' tk hP1 hP2 z' TO' h1' h2' hT hsz hk => ?_
    have hu : its[i]? = some u := by simpa using hP1
    have hu2 : its2[i]? = some u2 := by simpa using hP2
    obtain ⟨x, hxx⟩ : ∃ x, xs[i]? = some x := ⟨_, List.getElem?_eq_getElem hx⟩
    obtain ⟨y, hyy⟩ : ∃ y, ys[i]? = some y := ⟨_, List.getElem?_eq_getElem hy⟩
    obtain ⟨u', hu', ru⟩ := rv.get hxx
    obtain ⟨u2', hu2', ru2⟩ := rv2.get hyy
    obtain rfl : u' = u := Option.some.inj (hu'.symm.trans hu)
    obtain rfl : u2' = u2 := Option.some.inj (hu2'.symm.trans hu2)
    refine ⟨_, rfl, wpAny_letOwnedTupleGo_zip (s := { s with heap := h', toks := tk }) z' fun h'' z'' sb => ?_⟩
    have hT2 : h''.get? s.heap.objs.size = some { cls := .type "tuple", data := .seq #[u', u2'] } := (sb.2 _ (Nat.ne_of_gt hzl)).trans hT
    have new : ObjOk X.prog X.w (upd H s.heap.objs.size (.tup [x, y])) h'' s.heap.objs.size (.tup [x, y]) :=
      ⟨by show 2 ≤ sizeLine; decide, [u', u2'], .cons ru (.cons ru2 .nil), ⟨_, hT2, rfl, _, rfl⟩⟩
    have I1 : Inv X pins σ (upd H s.heap.objs.size (.tup [x, y])) { s with heap := h'', toks := tk } :=
      I.turnedNew (ch := [z, TI, TO, i1, i2]) (fun c o hb q => (sb.2 c (fun q' => hb (by simp [q']))).trans (hk c o (fun q' => hb (by simp [q'])) (fun q' => hb (by simp [q'])) (fun q' => hb (by simp [q'])) (fun q' => hb (by simp [q'])) q)) hf (Nat.le_refl _) new
    refine ⟨.ref s.heap.objs.size, _, I1, rfl, ⟨_, x, y, rfl, I.hok.fresh (Nat.le_refl _), rfl, fun l hl => by rw [inv_injB I hl hqx]; exact hxx, fun l hl => by rw [inv_injB I hl hqy]; exact hyy⟩, ⟨z'', ?_, ⟨u', u2', ?_⟩, ?_, ?_⟩, fun c hcm => ?_⟩
    · exact (sb.2 _ D.TIz).trans (hk _ _ D.TIz D.TITO D.TIi1 D.TIi2 hTI)
    · exact (sb.2 _ D.TOz).trans TO'
    · exact h1'.1.at fun o q => (sb.2 _ D.i1z).trans q
    · exact h2'.1.at fun o q => (sb.2 _ D.i2z).trans q
    · have hlt : c < s.heap.objs.size := by
        have e' : c = z ∨ c = TI ∨ c = TO ∨ c = i1 ∨ c = i2 := by simpa using hcm
        rcases e' with q | q | q | q | q
        · rw [q]; exact hzl
        · rw [q]; exact Heap.lt_size hTI
        · rw [q]; exact Heap.lt_size hTO
        · rw [q]; obtain ⟨_, e1, _⟩ := h1.live; exact Heap.lt_size e1
        · rw [q]; obtain ⟨_, e2, _⟩ := h2.live; exact Heap.lt_size e2
      rw [upd_ne (Nat.ne_of_lt hlt)]
      exact (hf c hcm).1
  done := by
    intro X hP hw hK hc i pins s σ H E I hf st hg
    subst hP hw hK
    obtain ⟨hz, hTI, ⟨x0, y0, hTO⟩, h1, h2⟩ := st
    obtain ⟨xs, ys, hqx, hqy, hend⟩ := hg
    obtain ⟨its, rv, p⟩ := inv_seqB I hqx
    obtain ⟨its2, rv2, p2⟩ := inv_seqB I hqy
    have l1 := rv.length
    have l2 := rv2.length
    have Sp : ZipSep2 z TI TO i1 i2 [i1, a] [i2, b] := ⟨D.TIz, D.TOz, D.TITO, D.TIi1, by simp, by simp [Ne.symm D.i1z, Ne.symm D.l1z], by simp [D.TOi1, Ne.symm D.l1TO], D.TIi2, by simp, by simp [Ne.symm D.i2z, Ne.symm D.l2z], by simp [D.TOi2, Ne.symm D.l2TO], by simp [D.i12, Ne.symm D.l2i1], by simp [Ne.symm D.i12, Ne.symm D.l1i2]⟩
    have D1 := drawsB (prog := X.prog) (w := X.w) (A := X.A.in1) t1 (show X.A.in1.handled = none from I.ok.hd hc) i1 a D.l1i1 its.toArray
    have D2 := drawsB (prog := X.prog) (w := X.w) (A := X.A.in1) t2 (show X.A.in1.handled = none from I.ok.hd hc) i2 b D.l2i2 its2.toArray
    refine wpAny_pyNext_zipD2_end Sp D1 D2 hz hTI hTO ⟨h1, p⟩ ⟨h2, p2⟩ (by simp; omega) (by simp; omega) (by simp; omega) fun h' tk hk => ⟨rfl, I.turnedL (t' := tk) (ch := [z, TI, TO, i1, i2]) (fun c o hb q =>
      hk c o (fun q' => hb (by simp [q'])) (fun q' => hb (by simp [q'])) (fun q' => hb (by simp [q'])) (fun q' => hb (by simp [q'])) q) hf⟩
  self := fun A i s Q E st h => wpAny_pyIter_zip st.1 h
def iZipB (K : PySem.W.Frag) (t1 t2 : Bool) (ta : TA) : TI := fun σ H R => ta σ H fun vs H1 => ∃ a b xs ys, vs = [.ref a, .ref b] ∧ SqB K t1 H1 a xs ∧ SqB K t2 H1 b ys ∧ R (ItzB K t1 t2 a b) H1
theorem pi_zipB {X : Cx} (t1 t2 : Bool) {e e2 : Expr} {ta : TA} {p pos tpos : Pos} {elts : List Expr} {kk : Nat} (hg : Gl X "zip") (hm : X.mg "zip" = none) (ha : PA X [e, e2] ta)
    (hs : starEach [e, e2] X.env = (false, eval e X.env) :: starEach [e2] X.env := by rfl) (hpl : (backTo pos (starEach [e2] X.env)).any (·.1) = false := by rfl) :
    PI X (.Tuple elts kk tpos) (.Call (.Name "zip" p) [e, e2] [] pos) (iZipB X.K t1 t2 ta) := by
  refine ⟨fun pins s σ H R I h => ?_⟩
  refine Call_ (ld_blt I hg hm PyProof.Rows.boot_zip (PyProof.Rows.callWith_type1 (thn (ha.run pos pins s σ H _ I h) fun us s1 ⟨vs, H1, I1, r1, q1⟩ => ?_) hs hpl))
  obtain ⟨a, b, xs, ys, ex, hqx, hqy, q⟩ := q1
  subst ex
  cases r1 with
  | cons r rr =>
    cases rr with
    | cons r' rr =>
      cases rr
      cases r
      cases r'
      have fresh5 : ∀ c, c ∈ [s1.heap.objs.size + 4, s1.heap.objs.size + 2, s1.heap.objs.size + 3, s1.heap.objs.size, s1.heap.objs.size + 1] → FpOk X pins H1 c := fun c hcm => by
        have e' : c = s1.heap.objs.size + 4 ∨ c = s1.heap.objs.size + 2 ∨ c = s1.heap.objs.size + 3 ∨ c = s1.heap.objs.size ∨ c = s1.heap.objs.size + 1 := by simpa using hcm
        have hle : s1.heap.objs.size ≤ c := by
          rcases e' with z | z | z | z | z
          · rw [z]; exact Nat.le_add_right _ _
          · rw [z]; exact Nat.le_add_right _ _
          · rw [z]; exact Nat.le_add_right _ _
          · rw [z]; exact Nat.le_refl _
          · rw [z]; exact Nat.le_add_right _ _
        exact I1.fpOk hle (I1.hok.fresh hle)
      obtain ⟨its, rv, p1⟩ := inv_seqB I1 hqx
      obtain ⟨its2, rv2, p2⟩ := inv_seqB I1 hqy
      refine zip_begins2 (beginsB t1 a its.toArray) (beginsB t2 b its2.toArray) p1 p2 fun h' hz hTI hTO h1 h2 hsz hk => wpAny_pyIter_zip hz ?_
      have I2 : Inv X pins σ H1 { s1 with heap := h' } := I1.kept (t' := s1.toks) hk
      exact ⟨s1.heap.objs.size + 4, [s1.heap.objs.size + 4, s1.heap.objs.size + 2, s1.heap.objs.size + 3, s1.heap.objs.size, s1.heap.objs.size + 1], _, _, H1, rfl, I2, turn_zipB (PySem.W.ktu_apart s1.heap.objs.size a b p1.lt p2.lt), ⟨hz, hTI, ⟨_, _, hTO⟩, iterB_new h1, iterB_new h2⟩, fresh5, q⟩
theorem walk_zipB {K : PySem.W.Frag} {t1 t2 : Bool} {a b : Addr} {xs ys : List V} {n : Nat} (hn : n = min xs.length ys.length) : Walk (ItzB K t1 t2 a b) n (fun H => SqB K t1 H a xs ∧ SqB K t2 H b ys) (YPair (fun i => xs[i]?) (fun i => ys[i]?)) := by
  subst hn
  refine ⟨fun i _ hi q => ⟨xs, ys, q.1, q.2, by omega, by omega⟩, fun _ q => ⟨xs, ys, q.1, q.2, rfl⟩, fun i H v H' _ q y => ?_⟩
  obtain ⟨T, x, y, e1, e2, e3, e4, e5⟩ := y
  exact ⟨T, x, y, e1, e2, e3, e4 xs q.1, e5 ys q.2⟩
end L2

set_option Elab.async false
set_option maxRecDepth 100000
set_option maxHeartbeats 4000000
namespace K02
open PySem PySem.Spec PyProof.Rows L2
def top (i : Nat) : Stmt := PySem.Challenge.pw_wholeline_k52_letters_as_units.main.body.getD i (.Pass ⟨0, 0, 0, 0⟩)
abbrev s_BadPart_init : Stmt := inClass (top 3) 0
abbrev nm_BadPart_init : List Str := ["self", "part"]
abbrev pm_BadPart_init : List Str := ["self", "part"]
theorem sc_BadPart_init : FnScope nm_BadPart_init pm_BadPart_init (defScope s_BadPart_init) := ⟨rfl, rfl, rfl, by decide +kernel, rfl, by decide +kernel, by decide +kernel⟩

abbrev s_BadLetter_init : Stmt := inClass (top 4) 0
abbrev nm_BadLetter_init : List Str := ["self", "spot"]
abbrev pm_BadLetter_init : List Str := ["self", "spot"]
theorem sc_BadLetter_init : FnScope nm_BadLetter_init pm_BadLetter_init (defScope s_BadLetter_init) := ⟨rfl, rfl, rfl, by decide +kernel, rfl, by decide +kernel, by decide +kernel⟩

abbrev s_BadName_init : Stmt := inClass (top 5) 0
abbrev nm_BadName_init : List Str := ["self", "name"]
abbrev pm_BadName_init : List Str := ["self", "name"]
theorem sc_BadName_init : FnScope nm_BadName_init pm_BadName_init (defScope s_BadName_init) := ⟨rfl, rfl, rfl, by decide +kernel, rfl, by decide +kernel, by decide +kernel⟩

abbrev s_BadHead_init : Stmt := inClass (top 6) 0
abbrev nm_BadHead_init : List Str := ["self", "index"]
abbrev pm_BadHead_init : List Str := ["self", "index"]
theorem sc_BadHead_init : FnScope nm_BadHead_init pm_BadHead_init (defScope s_BadHead_init) := ⟨rfl, rfl, rfl, by decide +kernel, rfl, by decide +kernel, by decide +kernel⟩

abbrev s_BadUnits_init : Stmt := inClass (top 7) 0
abbrev nm_BadUnits_init : List Str := ["self", "value"]
abbrev pm_BadUnits_init : List Str := ["self", "value"]
theorem sc_BadUnits_init : FnScope nm_BadUnits_init pm_BadUnits_init (defScope s_BadUnits_init) := ⟨rfl, rfl, rfl, by decide +kernel, rfl, by decide +kernel, by decide +kernel⟩

abbrev s_is_integer : Stmt := top 10
abbrev nm_is_integer : List Str := ["value"]
abbrev pm_is_integer : List Str := ["value"]
theorem sc_is_integer : FnScope nm_is_integer pm_is_integer (defScope s_is_integer) := ⟨rfl, rfl, rfl, by decide +kernel, rfl, by decide +kernel, by decide +kernel⟩

abbrev s_is_between : Stmt := top 11
abbrev nm_is_between : List Str := ["value", "low", "high"]
abbrev pm_is_between : List Str := ["value", "low", "high"]
theorem sc_is_between : FnScope nm_is_between pm_is_between (defScope s_is_between) := ⟨rfl, rfl, rfl, by decide +kernel, rfl, by decide +kernel, by decide +kernel⟩

abbrev s_is_index : Stmt := top 12
abbrev nm_is_index : List Str := ["value", "many"]
abbrev pm_is_index : List Str := ["value", "many"]
theorem sc_is_index : FnScope nm_is_index pm_is_index (defScope s_is_index) := ⟨rfl, rfl, rfl, by decide +kernel, rfl, by decide +kernel, by decide +kernel⟩

abbrev s_is_list : Stmt := top 13
abbrev nm_is_list : List Str := ["value"]
abbrev pm_is_list : List Str := ["value"]
theorem sc_is_list : FnScope nm_is_list pm_is_list (defScope s_is_list) := ⟨rfl, rfl, rfl, by decide +kernel, rfl, by decide +kernel, by decide +kernel⟩

abbrev s_is_name : Stmt := top 14
abbrev nm_is_name : List Str := ["value", "sign"]
abbrev pm_is_name : List Str := ["value"]
theorem sc_is_name : FnScope nm_is_name pm_is_name (defScope s_is_name) := ⟨rfl, rfl, rfl, by decide +kernel, rfl, by decide +kernel, by decide +kernel⟩

abbrev s_is_tuple_of : Stmt := top 15
abbrev nm_is_tuple_of : List Str := ["value", "many"]
abbrev pm_is_tuple_of : List Str := ["value", "many"]
theorem sc_is_tuple_of : FnScope nm_is_tuple_of pm_is_tuple_of (defScope s_is_tuple_of) := ⟨rfl, rfl, rfl, by decide +kernel, rfl, by decide +kernel, by decide +kernel⟩

abbrev s_is_told_by : Stmt := top 16
abbrev nm_is_told_by : List Str := ["value", "word", "many"]
abbrev pm_is_told_by : List Str := ["value", "word", "many"]
theorem sc_is_told_by : FnScope nm_is_told_by pm_is_told_by (defScope s_is_told_by) := ⟨rfl, rfl, rfl, by decide +kernel, rfl, by decide +kernel, by decide +kernel⟩

abbrev s_is_letter : Stmt := top 20
abbrev nm_is_letter : List Str := ["value", "heads", "body", "head"]
abbrev pm_is_letter : List Str := ["value"]
theorem sc_is_letter : FnScope nm_is_letter pm_is_letter (defScope s_is_letter) := ⟨rfl, rfl, rfl, by decide +kernel, rfl, by decide +kernel, by decide +kernel⟩

abbrev s_check_heads : Stmt := top 21
abbrev nm_check_heads : List Str := ["heads", "index", "head"]
abbrev pm_check_heads : List Str := ["heads"]
theorem sc_check_heads : FnScope nm_check_heads pm_check_heads (defScope s_check_heads) := ⟨rfl, rfl, rfl, by decide +kernel, rfl, by decide +kernel, by decide +kernel⟩

abbrev s_is_word : Stmt := top 24
abbrev nm_is_word : List Str := ["value"]
abbrev pm_is_word : List Str := ["value"]
theorem sc_is_word : FnScope nm_is_word pm_is_word (defScope s_is_word) := ⟨rfl, rfl, rfl, by decide +kernel, rfl, by decide +kernel, by decide +kernel⟩

abbrev s_check_places : Stmt := top 25
abbrev nm_check_places : List Str := ["places"]
abbrev pm_check_places : List Str := ["places"]
theorem sc_check_places : FnScope nm_check_places pm_check_places (defScope s_check_places) := ⟨rfl, rfl, rfl, by decide +kernel, rfl, by decide +kernel, by decide +kernel⟩

abbrev s_next_of : Stmt := top 26
abbrev nm_next_of : List Str := ["slots", "order"]
abbrev pm_next_of : List Str := ["slots", "order"]
theorem sc_next_of : FnScope nm_next_of pm_next_of (defScope s_next_of) := ⟨rfl, rfl, rfl, by decide +kernel, rfl, by decide +kernel, by decide +kernel⟩

abbrev s_slots_behind : Stmt := top 27
abbrev nm_slots_behind : List Str := ["places", "uses", "slots", "order", "head", "place", "old"]
abbrev pm_slots_behind : List Str := ["places", "uses"]
theorem sc_slots_behind : FnScope nm_slots_behind pm_slots_behind (defScope s_slots_behind) := ⟨rfl, rfl, rfl, by decide +kernel, rfl, by decide +kernel, by decide +kernel⟩

abbrev s_Book_init : Stmt := inClass (top 28) 0
abbrev nm_Book_init : List Str := ["self", "places", "uses", "slots", "order"]
abbrev pm_Book_init : List Str := ["self", "places", "uses"]
theorem sc_Book_init : FnScope nm_Book_init pm_Book_init (defScope s_Book_init) := ⟨rfl, rfl, rfl, by decide +kernel, rfl, by decide +kernel, by decide +kernel⟩

abbrev s_Book_held : Stmt := inClass (top 28) 1
abbrev nm_Book_held : List Str := ["self"]
abbrev pm_Book_held : List Str := ["self"]
theorem sc_Book_held : FnScope nm_Book_held pm_Book_held (defScope s_Book_held) := ⟨rfl, rfl, rfl, by decide +kernel, rfl, by decide +kernel, by decide +kernel⟩

abbrev s_Book_oldest_first : Stmt := inClass (top 28) 2
abbrev nm_Book_oldest_first : List Str := ["self"]
abbrev pm_Book_oldest_first : List Str := ["self"]
theorem sc_Book_oldest_first : FnScope nm_Book_oldest_first pm_Book_oldest_first (defScope s_Book_oldest_first) := ⟨rfl, rfl, rfl, by decide +kernel, rfl, by decide +kernel, by decide +kernel⟩

abbrev s_Book_place_of : Stmt := inClass (top 28) 3
abbrev nm_Book_place_of : List Str := ["self", "head"]
abbrev pm_Book_place_of : List Str := ["self", "head"]
theorem sc_Book_place_of : FnScope nm_Book_place_of pm_Book_place_of (defScope s_Book_place_of) := ⟨rfl, rfl, rfl, by decide +kernel, rfl, by decide +kernel, by decide +kernel⟩

abbrev s_Book_used : Stmt := inClass (top 28) 5
abbrev nm_Book_used : List Str := ["self", "head", "written", "used_again", "old", "place"]
abbrev pm_Book_used : List Str := ["self", "head"]
theorem sc_Book_used : FnScope nm_Book_used pm_Book_used (defScope s_Book_used) := ⟨rfl, rfl, rfl, by decide +kernel, rfl, by decide +kernel, by decide +kernel⟩

abbrev s_Book_word_for : Stmt := inClass (top 28) 6
abbrev nm_Book_word_for : List Str := ["self", "head", "place"]
abbrev pm_Book_word_for : List Str := ["self", "head"]
theorem sc_Book_word_for : FnScope nm_Book_word_for pm_Book_word_for (defScope s_Book_word_for) := ⟨rfl, rfl, rfl, by decide +kernel, rfl, by decide +kernel, by decide +kernel⟩

abbrev s_Book_contains : Stmt := inClass (top 28) 8
abbrev nm_Book_contains : List Str := ["self", "head"]
abbrev pm_Book_contains : List Str := ["self", "head"]
theorem sc_Book_contains : FnScope nm_Book_contains pm_Book_contains (defScope s_Book_contains) := ⟨rfl, rfl, rfl, by decide +kernel, rfl, by decide +kernel, by decide +kernel⟩

abbrev s_Book_len : Stmt := inClass (top 28) 9
abbrev nm_Book_len : List Str := ["self"]
abbrev pm_Book_len : List Str := ["self"]
theorem sc_Book_len : FnScope nm_Book_len pm_Book_len (defScope s_Book_len) := ⟨rfl, rfl, rfl, by decide +kernel, rfl, by decide +kernel, by decide +kernel⟩

abbrev s_Book_eq : Stmt := inClass (top 28) 10
abbrev nm_Book_eq : List Str := ["self", "other"]
abbrev pm_Book_eq : List Str := ["self", "other"]
theorem sc_Book_eq : FnScope nm_Book_eq pm_Book_eq (defScope s_Book_eq) := ⟨rfl, rfl, rfl, by decide +kernel, rfl, by decide +kernel, by decide +kernel⟩

abbrev s_read_head : Stmt := top 29
abbrev nm_read_head : List Str := ["book", "word"]
abbrev pm_read_head : List Str := ["book", "word"]
theorem sc_read_head : FnScope nm_read_head pm_read_head (defScope s_read_head) := ⟨rfl, rfl, rfl, by decide +kernel, rfl, by decide +kernel, by decide +kernel⟩

abbrev s_check_book : Stmt := top 30
abbrev nm_check_book : List Str := ["book"]
abbrev pm_check_book : List Str := ["book"]
theorem sc_check_book : FnScope nm_check_book pm_check_book (defScope s_check_book) := ⟨rfl, rfl, rfl, by decide +kernel, rfl, by decide +kernel, by decide +kernel⟩

abbrev s_is_unit : Stmt := top 36
abbrev nm_is_unit : List Str := ["value"]
abbrev pm_is_unit : List Str := ["value"]
theorem sc_is_unit : FnScope nm_is_unit pm_is_unit (defScope s_is_unit) := ⟨rfl, rfl, rfl, by decide +kernel, rfl, by decide +kernel, by decide +kernel⟩

abbrev s_are_units : Stmt := top 37
abbrev nm_are_units : List Str := ["value", "unit"]
abbrev pm_are_units : List Str := ["value"]
theorem sc_are_units : FnScope nm_are_units pm_are_units (defScope s_are_units) := ⟨rfl, rfl, rfl, by decide +kernel, rfl, by decide +kernel, by decide +kernel⟩

abbrev s_written : Stmt := top 38
abbrev nm_written : List Str := ["letter", "book", "long_cost", "heads", "body", "units", "head", "word"]
abbrev pm_written : List Str := ["letter", "book", "long_cost"]
theorem sc_written : FnScope nm_written pm_written (defScope s_written) := ⟨rfl, rfl, rfl, by decide +kernel, rfl, by decide +kernel, by decide +kernel⟩

abbrev s_read_letter : Stmt := top 39
abbrev nm_read_letter : List Str := ["units", "book", "heads", "unit", "head"]
abbrev pm_read_letter : List Str := ["units", "book"]
theorem sc_read_letter : FnScope nm_read_letter pm_read_letter (defScope s_read_letter) := ⟨rfl, rfl, rfl, by decide +kernel, rfl, by decide +kernel, by decide +kernel⟩

abbrev s__law_bag : Stmt := top 41
abbrev nm__law_bag : List Str := ["_law_script", "_law_cell"]
abbrev pm__law_bag : List Str := ["_law_script"]
theorem sc__law_bag : FnScope nm__law_bag pm__law_bag (defScope s__law_bag) := ⟨rfl, rfl, rfl, by decide +kernel, rfl, by decide +kernel, by decide +kernel⟩

abbrev s__law_draw : Stmt := top 42
abbrev nm__law_draw : List Str := ["_law_bag_here", "_law_many", "_law_cell", "_law_digit"]
abbrev pm__law_draw : List Str := ["_law_bag_here", "_law_many"]
theorem sc__law_draw : FnScope nm__law_draw pm__law_draw (defScope s__law_draw) := ⟨rfl, rfl, rfl, by decide +kernel, rfl, by decide +kernel, by decide +kernel⟩

abbrev s__law_letter : Stmt := top 43
abbrev nm__law_letter : List Str := ["_law_bag_here", "_law_most", "_law_names", "_law_heads", "_law_k"]
abbrev pm__law_letter : List Str := ["_law_bag_here", "_law_most"]
theorem sc__law_letter : FnScope nm__law_letter pm__law_letter (defScope s__law_letter) := ⟨rfl, rfl, rfl, by decide +kernel, rfl, by decide +kernel, by decide +kernel⟩

abbrev s__law_use : Stmt := top 44
abbrev nm__law_use : List Str := ["_law_book", "_law_head", "_law_held", "_law_order", "_law_place"]
abbrev pm__law_use : List Str := ["_law_book", "_law_head"]
theorem sc__law_use : FnScope nm__law_use pm__law_use (defScope s__law_use) := ⟨rfl, rfl, rfl, by decide +kernel, rfl, by decide +kernel, by decide +kernel⟩

abbrev s__law_units : Stmt := top 45
abbrev nm__law_units : List Str := ["_law_book", "_law_letter_here", "_law_cost", "_law_units_here", "_law_head", "_law_word"]
abbrev pm__law_units : List Str := ["_law_book", "_law_letter_here", "_law_cost"]
theorem sc__law_units : FnScope nm__law_units pm__law_units (defScope s__law_units) := ⟨rfl, rfl, rfl, by decide +kernel, rfl, by decide +kernel, by decide +kernel⟩

abbrev s__law_unit : Stmt := top 46
abbrev nm__law_unit : List Str := ["_law_bag_here", "_law_kind"]
abbrev pm__law_unit : List Str := ["_law_bag_here"]
theorem sc__law_unit : FnScope nm__law_unit pm__law_unit (defScope s__law_unit) := ⟨rfl, rfl, rfl, by decide +kernel, rfl, by decide +kernel, by decide +kernel⟩

abbrev s__law_holds : Stmt := top 47
abbrev nm__law_holds : List Str := ["_law_book", "_law_own"]
abbrev pm__law_holds : List Str := ["_law_book", "_law_own"]
theorem sc__law_holds : FnScope nm__law_holds pm__law_holds (defScope s__law_holds) := ⟨rfl, rfl, rfl, by decide +kernel, rfl, by decide +kernel, by decide +kernel⟩

abbrev s__law_same_order : Stmt := top 48
abbrev nm__law_same_order : List Str := ["_law_book", "_law_own", "_law_place"]
abbrev pm__law_same_order : List Str := ["_law_book", "_law_own"]
theorem sc__law_same_order : FnScope nm__law_same_order pm__law_same_order (defScope s__law_same_order) := ⟨rfl, rfl, rfl, by decide +kernel, rfl, by decide +kernel, by decide +kernel⟩

abbrev s__law_refused : Stmt := top 49
abbrev nm__law_refused : List Str := ["_law_way", "_law_value", "_law_book", "_law_cost", "_law_told", "e"]
abbrev pm__law_refused : List Str := ["_law_way", "_law_value", "_law_book", "_law_cost"]
theorem sc__law_refused : FnScope nm__law_refused pm__law_refused (defScope s__law_refused) := ⟨rfl, rfl, rfl, by decide +kernel, rfl, by decide +kernel, by decide +kernel⟩

abbrev s__law_free : Stmt := top 50
abbrev nm__law_free : List Str := ["_law_bag_here", "_law_places", "_law_units_here", "_law_own", "_law_heads", "_law_unit_here", "_law_head", "_law_letter_here", "_law_book", "_law_body", "_law_k"]
abbrev pm__law_free : List Str := ["_law_bag_here", "_law_places"]
theorem sc__law_free : FnScope nm__law_free pm__law_free (defScope s__law_free) := ⟨rfl, rfl, rfl, by decide +kernel, rfl, by decide +kernel, by decide +kernel⟩

abbrev s__law_odd : Stmt := top 51
abbrev nm__law_odd : List Str := ["_law_bag_here", "_law_book", "_law_odd_here", "_law_good", "_law_cost"]
abbrev pm__law_odd : List Str := ["_law_bag_here", "_law_book"]
theorem sc__law_odd : FnScope nm__law_odd pm__law_odd (defScope s__law_odd) := ⟨rfl, rfl, rfl, by decide +kernel, rfl, by decide +kernel, by decide +kernel⟩

abbrev s_law : Stmt := top 52
abbrev nm_law : List Str := ["_law_script", "_law_bag_here", "_law_places", "_law_cost", "_law_own", "_law_writer", "_law_reader", "_law_k", "_law_letter_here", "_law_due", "_law_told", "_law_back"]
abbrev pm_law : List Str := ["_law_script"]
theorem sc_law : FnScope nm_law pm_law (defScope s_law) := ⟨rfl, rfl, rfl, by decide +kernel, rfl, by decide +kernel, by decide +kernel⟩

structure Ad where
  (BadPart BadLetter BadName BadHead BadUnits WholeError Book T0 BODY REST : Addr)
structure Txt (K : PySem.W.Frag) (mg : Str → Option Value) (A : Ad) : Prop where
  n_isinstance : mg "isinstance" = none
  n_int : mg "int" = none
  n_bool : mg "bool" = none
  n_str : mg "str" = none
  n_list : mg "list" = none
  n_tuple : mg "tuple" = none
  n_len : mg "len" = none
  n_range : mg "range" = none
  n_enumerate : mg "enumerate" = none
  n_all : mg "all" = none
  g_MOST_PLACES : ∃ t, mg "MOST_PLACES" = some (.int 4 t)
  g_ALPHABET : ∃ t, mg "ALPHABET" = some (.str "abcdefghijklmnopqrstuvwxyz" t)
  Book : ClsX K mg "Book" A.Book
  b_places : NoAttr K A.Book "places"
  b_slots : NoAttr K A.Book "slots"
  b_order : NoAttr K A.Book "order"
  BadPart : XAt K mg "BadPart" "part" A.BadPart s_BadPart_init "BadPart.__init__"
  BadName : XAt K mg "BadName" "name" A.BadName s_BadName_init "BadName.__init__"
  BadHead : XAt K mg "BadHead" "index" A.BadHead s_BadHead_init "BadHead.__init__"
  BadLetter : XAt K mg "BadLetter" "spot" A.BadLetter s_BadLetter_init "BadLetter.__init__"
  BadUnits : XAt K mg "BadUnits" "value" A.BadUnits s_BadUnits_init "BadUnits.__init__"
  g_MOST_HEADS : ∃ t, mg "MOST_HEADS" = some (.int 4 t)
  g_MOST_BODY : ∃ t, mg "MOST_BODY" = some (.int 60 t)
  g_LEAST_COST : ∃ t, mg "LEAST_COST" = some (.int 2 t)
  g_MOST_COST : ∃ t, mg "MOST_COST" = some (.int 9 t)
  g_BODY : mg "BODY" = some (.ref A.BODY)
  t_BODY : ∀ H, SqT K H A.BODY [.str "body"]
  g_REST : mg "REST" = some (.ref A.REST)
  t_REST : ∀ H, SqT K H A.REST [.str "rest"]
  x_pl : PySem.W.exmOne K (.ref A.BadPart) (.ref A.BadLetter) = some false
  x_ul : PySem.W.exmOne K (.ref A.BadUnits) (.ref A.BadLetter) = some false
  x_up : PySem.W.exmOne K (.ref A.BadUnits) (.ref A.BadPart) = some false
  x_ll : PySem.W.exmOne K (.ref A.BadLetter) (.ref A.BadLetter) = some true
  x_pp : PySem.W.exmOne K (.ref A.BadPart) (.ref A.BadPart) = some true
  x_uu : PySem.W.exmOne K (.ref A.BadUnits) (.ref A.BadUnits) = some true
  t0 : ∀ H, SqT K H A.T0 []
theorem pe_gstr {X : Cx} {x : Str} {z : Str} {pos : Pos} (hm : ∃ t, X.mg x = some (.str z t)) (hg : Gl X x := by rfl) (hd : (x == ("__debug__" : Str)) = false := by decide) : PE X (.Name x pos) (tC (.str z)) := by
  obtain ⟨t, h⟩ := hm
  exact pe_glob hg h ⟨_, rfl⟩ hd
section
variable {P : Program} {w : World} {K : PySem.W.Frag} {mg : Str → Option Value} {base : Heap} {A : Ad}
theorem ok_xp {f : Addr} {fd : FuncData} (F : Fun K "__init__" "BadPart.__init__" s_BadPart_init f fd) (T : Txt K mg A) : FnOk P w K mg base CX0 1 f fd ["self", "part"] (spXI A.BadPart "part") := by
  refine F.ok sc_BadPart_init (fun vs H Q E h => ?_) (fun cdv A' outer s H vs Q E hr h => ?_)
  · obtain ⟨a, y, rfl, _⟩ := h
    rfl
  · obtain ⟨a, y, rfl, ha, q⟩ := h
    refine ⟨_, pss_one (ps_ost (pv 0) (pv 1)), ?_⟩
    exact ⟨_, rfl, _, rfl, a, A.BadPart, rfl, T.BadPart.ox, T.BadPart.noA, .inl ⟨ha, fun dx h1 h2 => q dx h1 h2⟩⟩
theorem ok_xn {f : Addr} {fd : FuncData} (F : Fun K "__init__" "BadName.__init__" s_BadName_init f fd) (T : Txt K mg A) : FnOk P w K mg base CX0 1 f fd ["self", "name"] (spXI A.BadName "name") := by
  refine F.ok sc_BadName_init (fun vs H Q E h => ?_) (fun cdv A' outer s H vs Q E hr h => ?_)
  · obtain ⟨a, y, rfl, _⟩ := h
    rfl
  · obtain ⟨a, y, rfl, ha, q⟩ := h
    refine ⟨_, pss_one (ps_ost (pv 0) (pv 1)), ?_⟩
    exact ⟨_, rfl, _, rfl, a, A.BadName, rfl, T.BadName.ox, T.BadName.noA, .inl ⟨ha, fun dx h1 h2 => q dx h1 h2⟩⟩
theorem ok_xh {f : Addr} {fd : FuncData} (F : Fun K "__init__" "BadHead.__init__" s_BadHead_init f fd) (T : Txt K mg A) : FnOk P w K mg base CX0 1 f fd ["self", "index"] (spXI A.BadHead "index") := by
  refine F.ok sc_BadHead_init (fun vs H Q E h => ?_) (fun cdv A' outer s H vs Q E hr h => ?_)
  · obtain ⟨a, y, rfl, _⟩ := h
    rfl
  · obtain ⟨a, y, rfl, ha, q⟩ := h
    refine ⟨_, pss_one (ps_ost (pv 0) (pv 1)), ?_⟩
    exact ⟨_, rfl, _, rfl, a, A.BadHead, rfl, T.BadHead.ox, T.BadHead.noA, .inl ⟨ha, fun dx h1 h2 => q dx h1 h2⟩⟩
/-! kinds, told by the data -/
theorem kd_str {d : PyData} : PySem.W.kitOne K (.type (tnD d)) (.type "str") = some (isStrD d) := by cases d <;> exact kit_ty (by dsimp only [tnD, isStrD]; decide +kernel)
def spInteger (K : PySem.W.Frag) : Sp := fun vs H Q _ => ∃ v d, vs = [v] ∧ Dp K H v d ∧ Q (.bl (isIntD d && !isBoolD d)) H
theorem ok_integer {f : Addr} {fd : FuncData} (F : Fun K "is_integer" "is_integer" s_is_integer f fd) (T : Txt K mg A) : FnOk P w K mg base CX0 1 f fd pm_is_integer (spInteger K) := by
  refine F.ok sc_is_integer (fun vs H Q E h => ?_) (fun cdv A' outer s H vs Q E hr h => ?_)
  · obtain ⟨v, k, rfl, _⟩ := h
    rfl
  · obtain ⟨v, d, rfl, hk, q⟩ := h
    refine ⟨_, pss_one (ps_ret (pe_and (pe_callB call_isi (by rfl) T.n_isinstance (by decide +kernel) (pa_cons (pv 0) (pa_cons (pe_bltn (v := .ty "int") (by rfl) T.n_int (by decide +kernel) rfl) pa_nil))) (pe_one (pe_not (pe_callB call_isi (by rfl) T.n_isinstance (by decide +kernel) (pa_cons (pv 0) (pa_cons (pe_bltn (v := .ty "bool") (by rfl) T.n_bool (by decide +kernel) rfl) pa_nil))))))), ?_⟩
    refine ⟨v, rfl, v, .ty "int", .type (tnD d), .type "int", isIntD d, rfl, .ty _, dp_ty hk, kd_int, _, rfl, ?_⟩
    cases h1 : isIntD d with
    | true =>
      rw [h1] at q
      exact iteT ⟨v, rfl, v, .ty "bool", .type (tnD d), .type "bool", isBoolD d, rfl, .ty _, dp_ty hk, kd_bool, _, rfl, q⟩
    | false =>
      rw [h1] at q
      exact iteF q
def spBetween (K : PySem.W.Frag) : Sp := fun vs H Q _ => ∃ v d a b, vs = [v, .int a, .int b] ∧ Dp K H v d ∧ Q (.bl (betD d a b)) H
theorem ok_between {f : Addr} {fd : FuncData} (F : Fun K "is_between" "is_between" s_is_between f fd) (O_is_integer : Own P w K mg base CX0 "is_integer" 1 pm_is_integer (spInteger K)) : FnOk P w K mg base CX0 2 f fd pm_is_between (spBetween K) := by
  refine F.ok sc_is_between (fun vs H Q E h => ?_) (fun cdv A' outer s H vs Q E hr h => ?_)
  · obtain ⟨v, k, a, b, rfl, _⟩ := h
    rfl
  · obtain ⟨v, d, a, b, rfl, hk, q⟩ := h
    refine ⟨_, pss_one (ps_ret (pe_and (pe_own O_is_integer (hr.mono (by decide)) pass0 (pa_cons (pv 0) pa_nil)) (pe_one (pe_chain op_le op_le (pv 1) (pv 0) (pv 2))))), ?_⟩
    refine ⟨v, rfl, v, d, rfl, hk, _, rfl, ?_⟩
    cases h1 : (isIntD d && !isBoolD d) with
    | true =>
      obtain ⟨n, rfl⟩ := int_yes h1
      obtain rfl := dp_int hk
      refine iteT ⟨_, rfl, _, rfl, _, _, rfl, rfl, _, rfl, ?_⟩
      rw [bet_int] at q
      cases h2 : decide (a ≤ n) with
      | true =>
        rw [h2] at q
        exact iteT ⟨_, rfl, _, _, rfl, rfl, q⟩
      | false =>
        rw [h2] at q
        exact iteF q
    | false =>
      rw [bet_not h1] at q
      exact iteF q
def spIndex (K : PySem.W.Frag) : Sp := fun vs H Q _ => ∃ v d n, vs = [v, .int n] ∧ Dp K H v d ∧ Q (.bl (betD d 0 (n - 1))) H
theorem ok_index {f : Addr} {fd : FuncData} (F : Fun K "is_index" "is_index" s_is_index f fd) (O_is_between : Own P w K mg base CX0 "is_between" 2 pm_is_between (spBetween K)) : FnOk P w K mg base CX0 3 f fd pm_is_index (spIndex K) := by
  refine F.ok sc_is_index (fun vs H Q E h => ?_) (fun cdv A' outer s H vs Q E hr h => ?_)
  · obtain ⟨_, _, _, rfl, _⟩ := h
    rfl
  · obtain ⟨v, d, n, rfl, hd, q⟩ := h
    refine ⟨_, pss_one (ps_ret (pe_own O_is_between (hr.mono (by decide)) pass0 (pa_cons (pv 0) (pa_cons (pe_int) (pa_cons (pe_op op_sub (pv 1) (pe_int)) pa_nil))))), ?_⟩
    exact ⟨v, rfl, _, rfl, _, _, rfl, rfl, v, d, 0, n - 1, rfl, hd, q⟩
def spIsList (K : PySem.W.Frag) : Sp := fun vs H Q _ => ∃ v t k, vs = [v] ∧ (∀ H', Ext H H' → TyX K H' v t) ∧ PySem.W.kitAny K t [.type "list", .type "tuple"] = some k ∧ ∀ H', Ext H H' → Q (.bl k) H'
theorem ok_isList {f : Addr} {fd : FuncData} (F : Fun K "is_list" "is_list" s_is_list f fd) (T : Txt K mg A) : FnOk P w K mg base CX0 1 f fd pm_is_list (spIsList K) := by
  refine F.ok sc_is_list (fun vs H Q E h => ?_) (fun cdv A' outer s H vs Q E hr h => ?_)
  · obtain ⟨v, t, k, rfl, _⟩ := h
    rfl
  · obtain ⟨v, t, k, rfl, hk, hs, q⟩ := h
    refine ⟨_, pss_one (ps_ret (pe_callB call_isiT (by rfl) T.n_isinstance (by decide +kernel) (pa_cons (pv 0) (pa_cons (pe_tup (pa_cons (pe_bltn (v := .ty "list") (by rfl) T.n_list (by decide +kernel) rfl) (pa_cons (pe_bltn (v := .ty "tuple") (by rfl) T.n_tuple (by decide +kernel) rfl) pa_nil))) pa_nil)))), ?_⟩
    refine ⟨v, rfl, by show 2 ≤ sizeLine; decide, fun p hp => ?_⟩
    exact ⟨v, p, [.ty "list", .ty "tuple"], t, [.type "list", .type "tuple"], k, rfl, upd_same, .cons (.ty _) (.cons (.ty _) .nil), hk _ (Ext.upd hp), hs, q _ (Ext.upd hp)⟩
theorem dp_lenD {H : Hp} {xs : List V} {ds : List PyData} {d : PyData} (ha : DpAll K H xs ds) (h : d = .list ds ∨ d = .tuple ds) : lenD d = xs.length := by
  rw [dps_len ha]
  rcases h with rfl | rfl <;> rfl
theorem dvi {a b : Int} : decide (V.int a = V.int b) = decide (a = b) := by simp
theorem dvs {a b : Str} : decide (V.str a = V.str b) = decide (a = b) := by simp
def spTupleOf (K : PySem.W.Frag) : Sp := fun vs H Q _ => ∃ v d a, vs = [v, .int a] ∧ Dp K H v d ∧ Q (.bl (isTupD d && decide ((lenD d : Int) = a))) H
theorem ok_tupleOf {f : Addr} {fd : FuncData} (F : Fun K "is_tuple_of" "is_tuple_of" s_is_tuple_of f fd) (T : Txt K mg A) : FnOk P w K mg base CX0 1 f fd pm_is_tuple_of (spTupleOf K) := by
  refine F.ok sc_is_tuple_of (fun vs H Q E h => ?_) (fun cdv A' outer s H vs Q E hr h => ?_)
  · obtain ⟨v, d, a, rfl, _⟩ := h
    rfl
  · obtain ⟨v, d, a, rfl, hk, q⟩ := h
    refine ⟨_, pss_one (ps_ret (pe_and (pe_callB call_isi (by rfl) T.n_isinstance (by decide +kernel) (pa_cons (pv 0) (pa_cons (pe_bltn (v := .ty "tuple") (by rfl) T.n_tuple (by decide +kernel) rfl) pa_nil))) (pe_one (pe_cmpR op_eq (pe_callB call_len_seq (by rfl) T.n_len (by decide +kernel) (pa_cons (pv 0) pa_nil)) (pv 1) (nomark _))))), ?_⟩
    refine ⟨v, rfl, v, .ty "tuple", .type (tnD d), .type "tuple", isTupD d, rfl, .ty _, dp_ty hk, kd_tup, _, rfl, ?_⟩
    cases h1 : isTupD d with
    | true =>
      rw [h1] at q
      obtain ⟨p, xs, ds, rfl, hx, ha, hd⟩ := dp_tup hk h1
      rw [dp_lenD ha (.inr hd)] at q
      refine iteT ⟨_, rfl, p, xs, rfl, .inr hx, _, rfl, rfl, ?_⟩
      show Q (.bl (decide (V.int (xs.length : Int) = V.int a))) H
      rw [dvi]
      exact q
    | false =>
      rw [h1] at q
      exact iteF q
/-! names -/
def inAl (c : Nat) : Bool := decide (c ∈ (("abcdefghijklmnopqrstuvwxyz" : Str)).cps.toList)
def nameS (s : Str) : Bool := (decide ((1 : Int) ≤ (s.length : Int)) && decide ((s.length : Int) ≤ 8)) && s.cps.toList.all inAl
def nameD : PyData → Bool | .str s => nameS s | _ => false
def SmD : PyData → Prop | .str s => s.length ≤ 1000 | _ => True
theorem small_sz {n : Nat} (h : n ≤ 2000) : n < sizeLine := Nat.lt_of_le_of_lt h (by decide)
theorem all_map {β : Type} {xs : List β} {f : β → Bool} : xs.map (fun x => V.bl (f x)) = (xs.map f).map V.bl := by
  rw [List.map_map]
  rfl
theorem all_id {β : Type} {xs : List β} {f : β → Bool} : (xs.map f).all id = xs.all f := by
  rw [List.all_map]
  rfl
def spName (K : PySem.W.Frag) : Sp := fun vs H Q _ => ∃ v d, vs = [v] ∧ Dp K H v d ∧ SmD d ∧ ∀ H', Ext H H' → Q (.bl (nameD d)) H'
theorem str_yes {H : Hp} {v : V} {d : PyData} (h : Dp K H v d) (hs : isStrD d = true) : ∃ s, d = .str s ∧ v = .str s := by
  cases h <;> first | exact ⟨_, rfl, rfl⟩ | cases hs
theorem ok_name {f : Addr} {fd : FuncData} (F : Fun K "is_name" "is_name" s_is_name f fd) (T : Txt K mg A) : FnOk P w K mg base CX0 1 f fd pm_is_name (spName K) := by
  refine F.ok sc_is_name (fun vs H Q E h => ?_) (fun cdv A' outer s H vs Q E hr h => ?_)
  · obtain ⟨_, _, rfl, _⟩ := h
    rfl
  · obtain ⟨v, d, rfl, hd, hsm, q⟩ := h
    refine ⟨_, pss_cons (ps_if (PW.pt (pw_or (pt_not (pt_val (pe_callB call_isi (by rfl) T.n_isinstance (by decide +kernel) (pa_cons (pv 0) (pa_cons (pe_bltn (v := .ty "str") (by rfl) T.n_str (by decide +kernel) rfl) pa_nil))))) (pw_or1 (pt_not (pt_chain op_le op_le (pe_int) (pe_callB call_len_str (by rfl) T.n_len (by decide +kernel) (pa_cons (pv 0) pa_nil)) (pe_int)))))) (pss_one (ps_ret (pe_bl))) (pss_nil))
      (pss_one (ps_ret (pe_callB (cr_all rfl) (by rfl) T.n_all (by decide +kernel) (pa_cons (pe_lc (own := [("sign", 1)]) (g := gName 1) (by rfl) sc_is_name.nd (pi_str (pv 0)) (blkOk_by (own := [("sign", 1)]) (N := nm_is_name) (sc := defScope s_is_name) (by decide +kernel)) (fun _ _ _ _ _ => pg_name (i := 1) sc_is_name.nd rfl (Or.inl rfl)) (fun s1 H1 C1 cl fp => pts_nil) (fun s1 H1 C1 cl fp => pe_cmpR op_in_sign (pv 1) (pe_gstr T.g_ALPHABET) (by with_unfolding_all rfl))) pa_nil)))), ?_⟩
    refine ⟨v, rfl, v, .ty "str", .type (tnD d), .type "str", isStrD d, rfl, .ty _, dp_ty hd, kd_str, _, rfl, ?_⟩
    cases h1 : isStrD d with
    | false =>
      have h := q H Ext.rfl'
      rw [show nameD d = false by cases d <;> first | rfl | cases h1] at h
      exact iteT h
    | true =>
      obtain ⟨z, rfl, rfl⟩ := str_yes hd h1
      have hz : z.length ≤ 1000 := hsm
      have hqn : ∀ H', Ext H H' → Q (.bl ((decide ((1 : Int) ≤ (z.length : Int)) && decide ((z.length : Int) ≤ 8)) && z.cps.toList.all inAl)) H' := q
      clear q
      refine iteF ⟨_, rfl, z, rfl, Nat.le_of_lt (small_sz (by omega)), _, _, rfl, rfl, _, rfl, ?_⟩
      cases h2 : decide ((1 : Int) ≤ (z.length : Int)) with
      | false =>
        have h := hqn H Ext.rfl'
        rw [h2] at h
        exact iteF ⟨_, rfl, iteT h⟩
      | true =>
        refine iteT ⟨_, _, rfl, rfl, _, rfl, ?_⟩
        cases h3 : decide ((z.length : Int) ≤ 8) with
        | false =>
          have h := hqn H Ext.rfl'
          rw [h2, h3] at h
          exact iteT h
        | true =>
          refine iteF ?_
          refine ⟨_, rfl, z, rfl, fun D hD => ?_⟩
          refine lc_it (walk_str (z := z)) (fun i H' => Ext H H' ∧ H' D = some (.lst ((((z.cps.toList.take i).map inAl)).map V.bl))) ⟨Ext.upd hD, upd_same⟩ (fun _ _ _ _ => True.intro) (fun i x H' H2 hi pv hy => ?_) (fun H' pv => ?_)
          · obtain ⟨e, hl⟩ := pv
            obtain ⟨rfl, c, hc, rfl⟩ := hy
            have hc' : z.cps.toList[i]? = some c := by rw [Array.getElem?_toList]; exact hc
            refine ⟨rfl, _, rfl, c, _, rfl, rfl, _, hl, small_sz ?_, ext_mut e hD, ?_⟩
            · rw [List.length_map, List.length_map, List.length_take]
              have : z.cps.toList.length = z.length := rfl
              omega
            · rw [upd_same, take_snoc hc', List.map_append, List.map_append]
              rfl
          · obtain ⟨e, hl⟩ := pv
            rw [List.take_of_length_le (by rw [Array.length_toList]; exact Nat.le_refl _)] at hl
            refine ⟨D, z.cps.toList.map inAl, rfl, SqL.of hl, ?_⟩
            have h := hqn H' e
            rw [h2, h3] at h
            rw [all_id]
            exact h
end
end K02

set_option Elab.async false
set_option maxRecDepth 100000
set_option maxHeartbeats 4000000
namespace K02
open PySem PySem.Spec PyProof.Rows L2
def sndD : PyData → PyData | .tuple (_ :: d :: _) => d | _ => .none
def toldD (d : PyData) (wd : Str) (m : Nat) : Bool := match d with
  | .tuple (.str s :: ds) => decide (ds.length + 1 = m) && decide (s = wd)
  | _ => false
def wordD (d : PyData) : Bool := if toldD d "short" 2 = true then betD (sndD d) 0 3 else toldD d "long" 2 && nameD (sndD d)
section
variable {P : Program} {w : World} {K : PySem.W.Frag} {mg : Str → Option Value} {base : Heap} {A : Ad}
def spTold (K : PySem.W.Frag) : Sp := fun vs H Q _ => ∃ (v : V) (d : PyData) (wd : Str) (m : Nat), vs = [v, .str wd, .int (m : Int)] ∧ Dp K H v d ∧ 1 ≤ m ∧ Q (.bl (toldD d wd m)) H
theorem told_no {d : PyData} {wd : Str} {m : Nat} (h : (isTupD d && decide ((lenD d : Int) = (m : Int))) = false) : toldD d wd m = false := by
  unfold toldD
  split
  · rename_i s ds
    rw [show decide (ds.length + 1 = m) = false from decide_eq_false fun e => by
      have z : decide (((ds.length + 1 : Nat) : Int) = (m : Int)) = false := h
      rw [decide_eq_true (by omega)] at z
      cases z]
    rfl
  · rfl
theorem ok_told {f : Addr} {fd : FuncData} (F : Fun K "is_told_by" "is_told_by" s_is_told_by f fd) (T : Txt K mg A) (O_is_tuple_of : Own P w K mg base CX0 "is_tuple_of" 1 pm_is_tuple_of (spTupleOf K)) : FnOk P w K mg base CX0 2 f fd pm_is_told_by (spTold K) := by
  refine F.ok sc_is_told_by (fun vs H Q E h => ?_) (fun cdv A' outer s H vs Q E hr h => ?_)
  · obtain ⟨_, _, _, _, rfl, _⟩ := h
    rfl
  · obtain ⟨v, d, wd, m, rfl, hd, hm, q⟩ := h
    refine ⟨_, pss_one (ps_ret (pe_and (pe_own O_is_tuple_of (hr.mono (by decide)) pass0 (pa_cons (pv 0) (pa_cons (pv 2) pa_nil))) (pe_and (pe_callB call_isi (by rfl) T.n_isinstance (by decide +kernel) (pa_cons (pe_ix ix_tup (pv 0) (pe_int) (fun _ _ => rfl)) (pa_cons (pe_bltn (v := .ty "str") (by rfl) T.n_str (by decide +kernel) rfl) pa_nil))) (pe_one (pe_cmpR op_eq (pe_ix ix_tup (pv 0) (pe_int) (fun _ _ => rfl)) (pv 1) (nomark _)))))), ?_⟩
    refine ⟨v, rfl, _, rfl, v, d, (m : Int), rfl, hd, _, rfl, ?_⟩
    cases h1 : (isTupD d && decide ((lenD d : Int) = (m : Int))) with
    | false =>
      rw [told_no h1] at q
      exact iteF q
    | true =>
      rw [Bool.and_eq_true, decide_eq_true_eq] at h1
      obtain ⟨p, xs, ds, rfl, hx, ha, rfl⟩ := dp_tup hd h1.1
      have hl : ds.length = m := by
        have z : ((ds.length : Nat) : Int) = (m : Int) := h1.2
        omega
      cases ha with
      | nil => exact absurd hl (by show ¬ (0 = m); omega)
      | @cons x0 xs' d0 ds' h0 ha' =>
        refine iteT ⟨_, rfl, p, _, 0, x0, rfl, rfl, hx, atI_nat (j := 0) rfl, x0, .ty "str", .type (tnD d0), .type "str", isStrD d0, rfl, .ty _, dp_ty h0, kd_str, _, rfl, ?_⟩
        cases h2 : isStrD d0 with
        | false =>
          have e : toldD (.tuple (d0 :: ds')) wd m = false := by
            cases d0 <;> first | rfl | cases h2
          rw [e] at q
          exact iteF q
        | true =>
          obtain ⟨z, rfl, rfl⟩ := str_yes h0 h2
          refine iteT ⟨_, rfl, p, _, 0, .str z, rfl, rfl, hx, atI_nat (j := 0) rfl, _, rfl, rfl, ?_⟩
          rw [dvs]
          have e : toldD (.tuple (.str z :: ds')) wd m = decide (z = wd) := by
            show (decide (ds'.length + 1 = m) && decide (z = wd)) = _
            rw [decide_eq_true (show ds'.length + 1 = m from hl)]
            rfl
          rw [e] at q
          exact q
theorem told_yes {H : Hp} {v : V} {d : PyData} {wd : Str} (hd : Dp K H v d) (h : toldD d wd 2 = true) : ∃ p y d1, v = .ref p ∧ SqT K H p [.str wd, y] ∧ Dp K H y d1 ∧ d = .tuple [.str wd, d1] := by
  unfold toldD at h
  split at h
  · rename_i s ds
    rw [Bool.and_eq_true, decide_eq_true_eq, decide_eq_true_eq] at h
    obtain ⟨h1, rfl⟩ := h
    obtain ⟨p, xs, ds', rfl, hx, ha, e⟩ := dp_tup hd rfl
    cases e
    match ds, h1, ha with
    | [d1], _, ha =>
      cases ha with
      | cons a1 ha =>
        cases ha with
        | cons a2 ha =>
          cases ha
          cases a1
          exact ⟨p, _, d1, rfl, hx, a2, rfl⟩
  · cases h
def spWord (K : PySem.W.Frag) : Sp := fun vs H Q _ => ∃ (v : V) (d : PyData), vs = [v] ∧ Dp K H v d ∧ SmD (sndD d) ∧ ∀ H', Ext H H' → Q (.bl (wordD d)) H'
theorem ok_word {f : Addr} {fd : FuncData} (F : Fun K "is_word" "is_word" s_is_word f fd) (T : Txt K mg A) (O_is_told_by : Own P w K mg base CX0 "is_told_by" 2 pm_is_told_by (spTold K)) (O_is_index : Own P w K mg base CX0 "is_index" 3 pm_is_index (spIndex K)) (O_is_name : Own P w K mg base CX0 "is_name" 1 pm_is_name (spName K)) : FnOk P w K mg base CX0 4 f fd pm_is_word (spWord K) := by
  refine F.ok sc_is_word (fun vs H Q E h => ?_) (fun cdv A' outer s H vs Q E hr h => ?_)
  · obtain ⟨_, _, rfl, _⟩ := h
    rfl
  · obtain ⟨v, d, rfl, hd, hsm, q⟩ := h
    refine ⟨_, pss_cons (ps_if (pt_val (pe_own O_is_told_by (hr.mono (by decide)) pass0 (pa_cons (pv 0) (pa_cons (pe_str) (pa_cons (pe_int) pa_nil))))) (pss_one (ps_ret (pe_own O_is_index (hr.mono (by decide)) pass0 (pa_cons (pe_ix ix_tup (pv 0) (pe_int) (fun _ _ => rfl)) (pa_cons (pe_gint T.g_MOST_PLACES) pa_nil))))) (pss_nil))
      (pss_one (ps_ret (pe_and (pe_own O_is_told_by (hr.mono (by decide)) pass0 (pa_cons (pv 0) (pa_cons (pe_str) (pa_cons (pe_int) pa_nil)))) (pe_one (pe_own O_is_name (hr.mono (by decide)) pass0 (pa_cons (pe_ix ix_tup (pv 0) (pe_int) (fun _ _ => rfl)) pa_nil)))))), ?_⟩
    refine ⟨v, rfl, v, d, "short", 2, rfl, hd, by decide, _, rfl, ?_⟩
    unfold wordD at q
    cases h1 : toldD d "short" 2 with
    | true =>
      obtain ⟨p, y, d1, rfl, hx, hy, rfl⟩ := told_yes hd h1
      have h := q H Ext.rfl'
      rw [h1, if_pos rfl] at h
      exact iteT ⟨_, rfl, p, _, 1, y, rfl, rfl, hx, rfl, y, d1, 4, rfl, hy, h⟩
    | false =>
      rw [h1] at q
      refine iteF ⟨v, rfl, v, d, "long", 2, rfl, hd, by decide, _, rfl, ?_⟩
      cases h2 : toldD d "long" 2 with
      | false =>
        have h := q H Ext.rfl'
        rw [if_neg (by decide), h2] at h
        exact iteF h
      | true =>
        obtain ⟨p, y, d1, rfl, hx, hy, rfl⟩ := told_yes hd h2
        refine iteT ⟨_, rfl, p, _, 1, y, rfl, rfl, hx, rfl, y, d1, rfl, hy, hsm, fun H' e => ?_⟩
        have h := q H' e
        rw [if_neg (by decide), h2] at h
        exact h
/-! heads -/
def itemsD : PyData → Option (List PyData) | .list ds => some ds | .tuple ds => some ds | _ => none
def ErrH (A : Ad) (E : XK) (H : Hp) (v : V) : Prop := ∀ H', Ext H H' → ∀ e, H' e = none → E (.ref A.BadHead) (some e) (upd H' e (.xd [("index", v)]))
def badAt (ds : List PyData) : Option Nat := ds.findIdx? fun d => !nameD d
theorem find_at {ds : List PyData} {f : PyData → Bool} {i : Nat} {d : PyData} (h0 : ∀ (j : Nat) (d : PyData), j < i → ds[j]? = some d → f d = false) (hd : ds[i]? = some d) (h : f d = true) : ds.findIdx? f = some i := by
  induction ds generalizing i with
  | nil => cases hd
  | cons x xs ih =>
    rw [List.findIdx?_cons]
    cases i with
    | zero =>
      cases hd
      rw [h]
      rfl
    | succ i =>
      rw [h0 0 x (Nat.succ_pos _) rfl]
      have z := ih (i := i) (fun j d hj hd => h0 (j + 1) d (Nat.succ_lt_succ hj) hd) hd
      rw [z]
      rfl
theorem find_no {ds : List PyData} {f : PyData → Bool} (h0 : ∀ (j : Nat) (d : PyData), ds[j]? = some d → f d = false) : ds.findIdx? f = none := by
  rw [List.findIdx?_eq_none_iff]
  intro x hx
  obtain ⟨j, hj⟩ := List.mem_iff_getElem?.mp hx
  exact h0 j x hj
def spHeads (K : PySem.W.Frag) (A : Ad) : Sp := fun vs H Q E => ∃ (v : V) (d : PyData), vs = [v] ∧ Dp K H v d ∧ (∀ ds, itemsD d = some ds → ∀ x ∈ ds, SmD x) ∧ (isSeqD d = false → ErrH A E H .non) ∧ (∀ ds i, itemsD d = some ds → badAt ds = some i → ErrH A E H (.int (i : Nat))) ∧
  (∀ ds, itemsD d = some ds → badAt ds = none → ∀ H', Ext H H' → Q .non H')
theorem ok_heads {f : Addr} {fd : FuncData} (F : Fun K "check_heads" "check_heads" s_check_heads f fd) (T : Txt K mg A) (O_is_list : Own P w K mg base CX0 "is_list" 1 pm_is_list (spIsList K)) (O_is_name : Own P w K mg base CX0 "is_name" 1 pm_is_name (spName K)) (X_BadHead : XCls P w K mg base "BadHead" "index" A.BadHead) : FnOk P w K mg base (L2.CX P w) 3 f fd pm_check_heads (spHeads K A) := by
  refine F.okX sc_check_heads (fun vs H Q E h => ?_) (fun cdv A' outer s H vs Q E hr h => ?_)
  · obtain ⟨_, _, rfl, _⟩ := h
    rfl
  · obtain ⟨v, d, rfl, hd, hsm, e1, e2, k⟩ := h
    refine ⟨_, pss_cons (ps_if (pt_not (pt_val (pe_own O_is_list (hr.mono (by decide)) pass0 (pa_cons (pv 0) pa_nil)))) (pss_one (ps_raise rfl (takes_of rfl rfl rfl rfl) (pmk_X X_BadHead (hr.mono (by decide)) (pe_non) rfl))) (pss_nil))
      (pss_one (ps_for (passes_of rfl) rfl (pi_enSq rfl T.n_enumerate (pa_cons (pv 0) pa_nil)) (pg_tup rfl (pgs_cons (pg_name (i := 1) sc_check_heads.nd rfl (Or.inl rfl)) (pgs_cons (pg_name (i := 2) sc_check_heads.nd rfl (Or.inl rfl)) (pgs_nil)))) (pss_one (ps_if (pt_not (pt_val (pe_own O_is_name (hr.mono (by decide)) pass0 (pa_cons (pv 2) pa_nil)))) (pss_one (ps_raise rfl (takes_of rfl rfl rfl rfl) (pmk_X X_BadHead (hr.mono (by decide)) (pv 1) rfl))) (pss_nil))))), ?_⟩
    refine ⟨v, rfl, v, .type (tnD d), isSeqD d, rfl, fun H' e => dp_ty (dp_ext e _ _ hd), by rw [kd_seq], fun H1 x1 => ⟨_, rfl, ?_⟩⟩
    cases h1 : isSeqD d with
    | false => exact iteT (mkX_fin fun e he => e1 h1 _ x1 e he)
    | true =>
      refine iteF ?_
      obtain ⟨a, xs, ds, rfl, hx, ha, hdd⟩ := dp_seq (dp_ext x1 _ _ hd) h1
      have hit : itemsD d = some ds := by rcases hdd with rfl | rfl <;> rfl
      refine ⟨_, rfl, a, rfl, ?_⟩
      refine for_enSq (xs := xs) hx (fun i σ' H' => Ext H1 H' ∧ (∃ o1 o2, σ' = [some (.ref a), o1, o2]) ∧ ∀ j d, j < i → ds[j]? = some d → nameD d = true) ⟨Ext.rfl', ⟨_, _, rfl⟩, fun j d hj _ => absurd hj (Nat.not_lt_zero _)⟩ (fun i σ' H' pv => pv.1) (fun i v σ' H' T' hi pv hT => ?_) (fun σ' H' pv => ?_)
      · obtain ⟨x2, ⟨o1, o2, rfl⟩, hok⟩ := pv
        refine ⟨T', _, rfl, SqT.of upd_same, rfl, _, _, rfl, _, _, rfl, rfl, ?_⟩
        have x3 := x2.upd' (o := .tup [.int (i : Nat), v]) hT
        obtain ⟨d0, hdi, hdv⟩ := dps_get (dps_ext x3 _ _ ha) hi
        refine ⟨v, rfl, v, d0, rfl, hdv, hsm ds hit d0 (List.mem_of_getElem? hdi), fun H4 x4 => ⟨_, rfl, ?_⟩⟩
        cases h4 : nameD d0 with
        | false =>
          refine iteT ⟨_, rfl, mkX_fin fun e he => e2 ds i hit ?_ _ ((x1.trans x3).trans x4) e he⟩
          exact find_at (f := fun d => !nameD d) (fun j d hj hd => by rw [hok j d hj hd]; rfl) hdi (by rw [h4]; rfl)
        | true =>
          refine iteF ⟨x3.trans x4, ⟨_, _, rfl⟩, fun j d' hj hd' => ?_⟩
          rcases Nat.lt_succ_iff_lt_or_eq.mp hj with hj | rfl
          · exact hok j d' hj hd'
          · rw [hdi] at hd'
            cases hd'
            exact h4
      · obtain ⟨x2, ⟨o1, o2, rfl⟩, hok⟩ := pv
        refine k ds hit ?_ _ (x1.trans x2)
        exact find_no (f := fun d => !nameD d) fun j d hd => by
          have hj : j < xs.length := by
            rw [dps_len ha]
            exact (List.getElem?_eq_some_iff.mp hd).1
          rw [hok j d hj hd]
          rfl
def ErrP (A : Ad) (E : XK) (H : Hp) (s : Str) : Prop := ∀ H', Ext H H' → ∀ e, H' e = none → E (.ref A.BadPart) (some e) (upd H' e (.xd [("part", .str s)]))
def spPlaces (K : PySem.W.Frag) (A : Ad) : Sp := fun vs H Q E => ∃ (v : V) (d : PyData), vs = [v] ∧ Dp K H v d ∧ (betD d 0 4 = false → ErrP A E H "places") ∧ (betD d 0 4 = true → Q .non H)
theorem ok_places {f : Addr} {fd : FuncData} (F : Fun K "check_places" "check_places" s_check_places f fd) (T : Txt K mg A) (O_is_between : Own P w K mg base CX0 "is_between" 2 pm_is_between (spBetween K)) (X_BadPart : XCls P w K mg base "BadPart" "part" A.BadPart) : FnOk P w K mg base (L2.CX P w) 4 f fd pm_check_places (spPlaces K A) := by
  refine F.okX sc_check_places (fun vs H Q E h => ?_) (fun cdv A' outer s H vs Q E hr h => ?_)
  · obtain ⟨_, _, rfl, _⟩ := h
    rfl
  · obtain ⟨v, d, rfl, hd, qE, qQ⟩ := h
    refine ⟨_, pss_one (ps_if (pt_not (pt_val (pe_own O_is_between (hr.mono (by decide)) pass0 (pa_cons (pv 0) (pa_cons (pe_int) (pa_cons (pe_gint T.g_MOST_PLACES) pa_nil)))))) (pss_one (ps_raise rfl (takes_of rfl rfl rfl rfl) (pmk_X X_BadPart (hr.mono (by decide)) (pe_str) rfl))) (pss_nil)), ?_⟩
    refine ⟨v, rfl, v, d, 0, 4, rfl, hd, _, rfl, ?_⟩
    cases h1 : betD d 0 4 with
    | false => exact iteT (mkX_fin fun e he => qE h1 _ Ext.rfl' e he)
    | true => exact iteF (qQ h1)
end
end K02

set_option Elab.async false
set_option maxRecDepth 100000
set_option maxHeartbeats 4000000
namespace K02
open PySem PySem.Spec PyProof.Rows L2
def sV : Option Str → V | none => .non | some s => .str s
def nI (j : Nat) : V := .int (j : Int)
def oV : Option Nat → V | none => .non | some j => nI j
theorem eq_sV (a b : Option Str) : eqV (sV a) (sV b) = decide (a = b) := by
  cases a with
  | none => cases b <;> rfl
  | some a =>
    cases b with
    | none => rfl
    | some b =>
      show (a == b) = _
      rw [Bool.eq_iff_iff]
      simp
theorem in_sV (a : Option Str) : ∀ S : List (Option Str), inV (sV a) (S.map sV) = decide (a ∈ S)
  | [] => rfl
  | s :: S => by
    have ih := in_sV a S
    unfold inV at ih ⊢
    rw [List.map_cons, List.any_cons, ih, eq_sV, Bool.eq_iff_iff]
    simp
    constructor
    · rintro (e | e)
      · exact .inl e.symm
      · exact .inr e
    · rintro (e | e)
      · exact .inl e.symm
      · exact .inr e
theorem flat_sV {S : List (Option Str)} : (S.map sV).all flatV = true := by
  rw [List.all_eq_true]
  intro v hv
  obtain ⟨n, _, rfl⟩ := List.mem_map.mp hv
  cases n <;> rfl
theorem fl1 (a : Option Str) : flatV (sV a) = true := by cases a <;> rfl
theorem at_sV {a : Option Str} {S : List (Option Str)} (h : a ∈ S) : (S.map sV)[at1 S a]? = some (sV a) ∧ ∀ (m : Nat) (z : V), m < at1 S a → (S.map sV)[m]? = some z → eqV z (sV a) = false := by
  obtain ⟨h1, h2⟩ := at1_mem h
  refine ⟨by rw [List.getElem?_map, h1]; rfl, fun m z hm hz => ?_⟩
  rw [List.getElem?_map] at hz
  cases hy : S[m]? with
  | none => rw [hy] at hz; cases hz
  | some y =>
    rw [hy] at hz
    cases hz
    rw [eq_sV]
    exact decide_eq_false (h2 m y hm hy)
theorem nn_sV (a : Option Str) : (decide (sV a = .non)) = decide (a = none) := by cases a <;> simp [sV]
theorem nn_oV (a : Option Nat) : (decide (oV a = .non)) = decide (a = none) := by cases a <;> simp [oV, nI]
section
variable {P : Program} {w : World} {K : PySem.W.Frag} {mg : Str → Option Value} {base : Heap} {A : Ad}
def spNext (K : PySem.W.Frag) : Sp := fun vs H Q _ => ∃ (ps po : Addr) (S : List (Option Str)) (O : List Nat), vs = [.ref ps, .ref po] ∧ ((SqL K H ps (S.map sV) ∧ SqL K H po (O.map nI)) ∨ (FrzT H ps (S.map sV) ∧ SqT K H po (O.map nI))) ∧
  (O.length < S.length → none ∈ S) ∧ Q (oV (nextP (S, O))) H
theorem ok_next {f : Addr} {fd : FuncData} (F : Fun K "next_of" "next_of" s_next_of f fd) (T : Txt K mg A) : FnOk P w K mg base CX0 1 f fd pm_next_of (spNext K) := by
  refine F.ok sc_next_of (fun vs H Q E h => ?_) (fun cdv A' outer s H vs Q E hr h => ?_)
  · obtain ⟨_, _, _, _, rfl, _⟩ := h
    rfl
  · obtain ⟨ps, po, S, O, rfl, hx, hn, q⟩ := h
    refine ⟨_, pss_cons (ps_if (pt_cmpR op_lt (pe_callB call_len_seq (by rfl) T.n_len (by decide +kernel) (pa_cons (pv 1) pa_nil)) (pe_callB call_len_seq (by rfl) T.n_len (by decide +kernel) (pa_cons (pv 0) pa_nil)) (nomark _)) (pss_one (ps_ret (pe_either (pe_bm PySem.F.plainAttrs_list PySem.F.slot_list_index PySem.F.type_list_index mt_index (pv 0) (pa_cons (pe_non) pa_nil)) (pe_tm PySem.F.slot_tuple_index PySem.F.type_tuple_index mt_tupIndex (pv 0) (pa_cons (pe_non) pa_nil))))) (pss_nil))
      (pss_one (ps_ret (pe_ifExp (pt_truth (pv 1) (by intro _; rfl)) (pe_either (pe_ix ix_list (pv 1) pe_int (fun _ _ => rfl)) (pe_ix ix_tup (pv 1) pe_int (fun _ _ => rfl))) (pe_non)))), ?_⟩
    have hO : SqL K H po (O.map nI) ∨ SqT K H po (O.map nI) := hx.imp And.right And.right
    have hS : SqL K H ps (S.map sV) ∨ SqT K H ps (S.map sV) := hx.imp And.left fun h => h.1.sqT
    refine ⟨_, rfl, po, _, rfl, hO, _, rfl, ps, _, rfl, hS, _, _, rfl, rfl, _, rfl, ?_⟩
    rw [List.length_map, List.length_map]
    unfold nextP at q
    dsimp only at q
    by_cases hl : O.length < S.length
    · rw [if_pos hl] at q
      rw [decide_eq_true (show (O.length : Int) < (S.length : Int) by omega)]
      obtain ⟨a1, a2⟩ := at_sV (hn hl)
      refine iteT ?_
      rcases hx with hx | hx
      · exact .inl ⟨_, rfl, .inl ⟨rfl, _, hx.1⟩, ps, _, .non, _, _, rfl, rfl, hx.1, rfl, flat_sV, a1, rfl, a2, q⟩
      · exact .inr ⟨_, rfl, _, _, rfl, hx.1, ps, _, .non, _, _, rfl, rfl, hx.1.sqT, rfl, flat_sV, a1, rfl, a2, q⟩
    · rw [if_neg hl] at q
      rw [decide_eq_false (show ¬ (O.length : Int) < (S.length : Int) by omega)]
      refine iteF ?_
      cases O with
      | nil =>
        rcases hx with hx | hx
        · exact ⟨_, rfl, false, .inl ⟨_, hx.2, rfl⟩, iteF q⟩
        · exact ⟨_, rfl, false, .inr (.inl ⟨_, hx.2, rfl⟩), iteF q⟩
      | cons o O =>
        rcases hx with hx | hx
        · exact ⟨_, rfl, true, .inl ⟨_, hx.2, rfl⟩, iteT (.inl ⟨_, rfl, po, _, 0, nI o, rfl, rfl, hx.2, atI_nat (j := 0) rfl, q⟩)⟩
        · exact ⟨_, rfl, true, .inr (.inl ⟨_, hx.2, rfl⟩), iteT (.inr ⟨_, rfl, po, _, 0, nI o, rfl, rfl, hx.2, atI_nat (j := 0) rfl, q⟩)⟩
end
end K02

set_option Elab.async false
set_option maxRecDepth 100000
set_option maxHeartbeats 4000000
namespace K02
open PySem PySem.Spec PyProof.Rows L2
theorem ok_run {n : Nat} : ∀ us : List Str, ∃ ns, Ok n (run n us) ns ∧ ∀ x, x ∈ ns → x ∈ us := by
  have h : ∀ (us : List Str) (s : St Str) (ns : List Str), Ok n s ns → ∃ ns', Ok n (us.foldl step s) ns' ∧ ∀ x, x ∈ ns' → x ∈ ns ∨ x ∈ us := by
    intro us
    induction us with
    | nil => exact fun s ns o => ⟨ns, o, fun x hx => .inl hx⟩
    | cons u us ih =>
      intro s ns o
      obtain ⟨n1, o1, h1⟩ := ok_step o u
      obtain ⟨n2, o2, h2⟩ := ih _ _ o1
      refine ⟨n2, o2, fun x hx => ?_⟩
      rcases h2 x hx with h | h
      · rcases h1 x h with h | h
        · exact .inl h
        · exact .inr (by rw [h]; exact List.mem_cons_self)
      · exact .inr (List.mem_cons_of_mem _ h)
  intro us
  obtain ⟨ns, o, h⟩ := h us _ [] ok_emp
  exact ⟨ns, o, fun x hx => (h x hx).resolve_left (List.not_mem_nil)⟩
theorem run_snoc {n : Nat} {us : List Str} {i : Nat} {u : Str} (h : us[i]? = some u) : run n (us.take (i + 1)) = step (run n (us.take i)) u := by
  unfold run
  rw [take_snoc h, List.foldl_append]
  rfl
theorem ne_nI {O : List Nat} (p : Nat) : (O.map nI).filter (fun v => !decide (v = nI p)) = (O.filter (fun o => decide (o ≠ p))).map nI := by
  rw [List.filter_map]
  congr 1
  refine List.filter_congr fun x _ => ?_
  show (!decide (V.int (x : Int) = V.int (p : Int))) = _
  rw [dvi, Bool.eq_iff_iff]
  simp
  omega
section
variable {P : Program} {w : World} {K : PySem.W.Frag} {mg : Str → Option Value} {base : Heap} {A : Ad}
def spBehind (K : PySem.W.Frag) : Sp := fun vs H Q _ => ∃ (n : Nat) (a : Addr) (us : List Str), vs = [.int (n : Int), .ref a] ∧ (SqL K H a (us.map V.str) ∨ SqT K H a (us.map V.str)) ∧ n ≤ 4 ∧ ∀ q ps po H', Ext H H' → H' q = some (.tup [.ref ps, .ref po]) →
  FrzT H' ps ((run n us).1.map sV) → SqT K H' po ((run n us).2.map nI) → Q (.ref q) H'
theorem place_lt {n : Nat} {s : St Str} {ns : List Str} (o : Ok n s ns) {u : Str} {p : Nat} (h : place s u = some p) : p < s.1.length := by
  unfold place at h
  by_cases hm : some u ∈ s.1
  · rw [if_pos hm] at h
    cases h
    exact (List.getElem?_eq_some_iff.mp (at1_mem hm).1).1
  · rw [if_neg hm] at h
    unfold nextP at h
    by_cases hl : s.2.length < s.1.length
    · rw [if_pos hl] at h
      cases h
      rw [o.olen, o.len] at hl
      rw [o.atn hl, o.len]
      exact hl
    · rw [if_neg hl] at h
      cases hO : s.2 with
      | nil => rw [hO] at h; cases h
      | cons q O =>
        rw [hO] at h
        cases h
        have z : p < ns.length := o.omem.mp (by rw [hO]; exact List.mem_cons_self)
        rw [o.len]
        exact Nat.lt_of_lt_of_le z o.le
theorem ok_behind {f : Addr} {fd : FuncData} (F : Fun K "slots_behind" "slots_behind" s_slots_behind f fd) (T : Txt K mg A) (O_next_of : Own P w K mg base CX0 "next_of" 1 pm_next_of (spNext K)) : FnOk P w K mg base CX0 2 f fd pm_slots_behind (spBehind K) := by
  refine F.ok sc_slots_behind (fun vs H Q E h => ?_) (fun cdv A' outer s H vs Q E hr h => ?_)
  · obtain ⟨_, _, _, rfl, _⟩ := h
    rfl
  · obtain ⟨n, a, us, rfl, ha, hn, q⟩ := h
    refine ⟨_, pss_cons (ps_set (i := 2) sc_slots_behind.nd rfl (Or.inl rfl) (pe_op op_rep (pe_lst (pa_cons (pe_non) pa_nil)) (pv 0)))
      (pss_cons (ps_set (i := 3) sc_slots_behind.nd rfl (Or.inl rfl) (pe_lst (pa_nil)))
      (pss_cons (ps_for PassesOwn.never rfl (pi_sq (pv 1)) (pg_name (i := 4) sc_slots_behind.nd rfl (Or.inl rfl)) (Evl.pss_cut (ps_set (i := 5) sc_slots_behind.nd rfl (Or.inr rfl) (pe_ifExp (pt_cmpR op_in_seq (pv 4) (pv 2) (by with_unfolding_all rfl)) (pe_bm PySem.F.plainAttrs_list PySem.F.slot_list_index PySem.F.type_list_index mt_index (pv 2) (pa_cons (pv 4) pa_nil)) (pe_own O_next_of (hr.mono (by decide)) pass0 (pa_cons (pv 2) (pa_cons (pv 3) pa_nil)))))
      (pss_one (ps_if (pt_cmpR op_notN (pv 5) (pe_non) (nomark _)) (pss_cons (ps_asg (pv 4) (pg_sub (pv 2) (pv 5) set_list))
      (pss_one (ps_set (i := 3) sc_slots_behind.nd rfl (Or.inl rfl) (pe_op op_cat (pe_lc (own := [("old", 6)]) (g := gName 6) (by rfl) sc_slots_behind.nd (pi_sq (pv 3)) (blkOk_by (own := [("old", 6)]) (N := nm_slots_behind) (sc := defScope s_slots_behind) (by decide +kernel)) (fun _ _ _ _ _ => pg_name (i := 6) sc_slots_behind.nd rfl (Or.inl rfl)) (fun s1 H1 C1 cl fp => pts_one (pt_cmpR op_ne (pv 6) (pv 5) (nomark _))) (fun s1 H1 C1 cl fp => pv 6)) (pe_lst (pa_cons (pv 5) pa_nil)))))) (pss_nil)))))
      (pss_one (ps_ret (pe_tup (pa_cons (pe_callTy call_tuple_frz (by rfl) T.n_tuple (by decide +kernel) (pa_cons (pv 2) pa_nil)) (pa_cons (pe_callTy call_tuple_of (by rfl) T.n_tuple (by decide +kernel) (pa_cons (pv 3) pa_nil)) pa_nil))))))), ?_⟩
    refine ⟨by decide, fun l hl => ⟨_, rfl, l, (n : Int), [.non], rfl, rfl, upd_same, by omega, by omega, Nat.le_trans (show ([V.non] : List V).length * (n : Int).toNat ≤ 4 by show 1 * (n : Int).toNat ≤ 4; omega) (by decide), fun D hD => ?_⟩⟩
    refine ⟨by decide, fun po hpo => ⟨_, rfl, a, rfl, ?_⟩⟩
    have hD0 := ext_none (Ext.upd hl) hD
    have e2 : Ext H (upd (upd H l (.lst [.non])) D (.lst (List.replicate (n : Int).toNat [V.non]).flatten)) := (Ext.upd hl).trans (Ext.upd hD)
    have hpo0 := ext_none e2 hpo
    have hrep : (List.replicate (n : Int).toNat [V.non]).flatten = ((emp n : St Str).1).map sV := by
      rw [show (n : Int).toNat = n by omega]
      show _ = (List.replicate n (none : Option Str)).map sV
      rw [List.map_replicate]
      clear q hn ha hD hD0 e2 hpo hpo0
      induction n with
      | zero => rfl
      | succ n ih => rw [List.replicate_succ, List.flatten_cons, ih]; rfl
    refine for_sqM (H0 := H) (xs := us.map V.str) ha (fun i σ' H' => Ext H H' ∧ ∃ po o4 o5, σ' = [some (.int (n : Int)), some (.ref a), some (.ref D), some (.ref po), o4, o5, none] ∧ H' D = some (.lst ((run n (us.take i)).1.map sV)) ∧ H' po = some (.lst ((run n (us.take i)).2.map nI)) ∧ po ≠ D)
      ⟨e2.trans (Ext.upd hpo), po, _, _, rfl, by rw [upd_ne (ne_of_none upd_same hpo), upd_same, hrep]; rfl, upd_same, (ne_of_none upd_same hpo).symm⟩ (fun i σ' H' pv => pv.1) (fun i x σ' H' hi pv => ?_) (fun σ' H' pv => ?_)
    · obtain ⟨e, po, o4, o5, rfl, hS, hO, hne⟩ := pv
      rw [List.getElem?_map] at hi
      obtain ⟨u, hu, rfl⟩ := Option.map_eq_some_iff.mp hi
      obtain ⟨ns, ok, _⟩ := ok_run (n := n) (us.take i)
      rw [run_snoc hu]
      generalize run n (us.take i) = R at hS hO ok ⊢
      refine ⟨fun σ2 H2 => H2 = H' ∧ σ2 = [some (.int (n : Int)), some (.ref a), some (.ref D), some (.ref po), some (.str u), some (oV (place R u)), none], ?_, ?_⟩
      · refine ⟨_, rfl, _, rfl, D, _, rfl, .inl (SqL.of hS), rfl, flat_sV, _, rfl, ?_⟩
        rw [show (if false = true then !inV (V.str u) (R.1.map sV) else inV (V.str u) (R.1.map sV)) = decide (some u ∈ R.1) from in_sV (some u) R.1]
        unfold place
        by_cases hm : some u ∈ R.1
        · rw [decide_eq_true hm, if_pos hm]
          obtain ⟨a1, a2⟩ := at_sV hm
          exact iteT ⟨_, rfl, .inl ⟨rfl, _, SqL.of hS⟩, _, rfl, D, _, .str u, _, _, rfl, rfl, SqL.of hS, rfl, flat_sV, a1, by show eqV (sV (some u)) (sV (some u)) = true; rw [eq_sV]; exact decide_eq_true rfl, a2, rfl, rfl⟩
        · rw [decide_eq_false hm, if_neg hm]
          refine iteF ⟨_, rfl, _, rfl, D, po, R.1, R.2, rfl, .inl ⟨SqL.of hS, SqL.of hO⟩, fun hl => ?_, rfl, rfl⟩
          rw [ok.olen, ok.len] at hl
          exact ok.nonemem.mpr hl
      · rintro σ2 H2 ⟨rfl, rfl⟩
        refine ⟨_, rfl, rfl, _, rfl, ?_⟩
        rw [nn_oV]
        cases hp : place R u with
        | none =>
          refine iteF ⟨e, po, _, _, rfl, ?_, ?_⟩
          · unfold step
            rw [hp]
            exact hS
          · unfold step
            rw [hp]
            exact ⟨hO, hne⟩
        | some p =>
          have hst : step R u = put R u p := by
            unfold step
            rw [hp]
          rw [hst]
          have hpl := place_lt ok hp
          refine iteT ⟨_, rfl, _, rfl, _, rfl, D, _, (p : Int), p, rfl, rfl, hS, ?_, ?_⟩
          · rw [List.length_map]
            exact Evl.ixN_nat hpl
          · have e3 : Ext H (upd H2 D (.lst ((R.1.map sV).set p (.str u)))) := ext_mut e hD0
            have hO3 : (upd H2 D (.lst ((R.1.map sV).set p (.str u)))) po = some (.lst (R.2.map nI)) := by
              rw [upd_ne hne]
              exact hO
            have hS3 : (upd H2 D (.lst ((R.1.map sV).set p (.str u)))) D = some (.lst ((R.1.set p (some u)).map sV)) := by
              rw [upd_same, List.map_set]
              rfl
            generalize upd H2 D (.lst ((R.1.map sV).set p (.str u))) = H3 at e3 hO3 hS3 ⊢
            refine ⟨_, rfl, po, rfl, lc_sqG (xs := R.2.map nI) (f := fun v => v) (b := fun v => !decide (v = nI p)) (.inl (SqL.of hO3)) ?_ (fun _ => rfl) (fun x hx H4 e4 Q' hq => ?_) (fun x _ _ H4 e4 Q' hq => ?_) (fun D4 H4 hD4 e4 hl4 => ?_)⟩
            · rw [List.length_map]
              exact small_sz (by rw [ok.olen]; have := ok.le; omega)
            · obtain ⟨o, _, rfl⟩ := List.mem_map.mp hx
              exact ⟨_, rfl, _, rfl, rfl, _, rfl, hq _ Ext.rfl'⟩
            · exact ⟨_, rfl, hq _ Ext.rfl'⟩
            · rw [List.map_id', ne_nI] at hl4
              refine ⟨_, rfl, by show 1 ≤ sizeLine; decide, fun D5 hD5 => ⟨D4, D5, _, _, rfl, rfl, Ext.upd hD5 _ _ hl4, upd_same, ?_, fun D6 hD6 => ?_⟩⟩
              · rw [List.length_map]
                have z := List.length_filter_le (fun o => decide (o ≠ p)) R.2
                have := ok.olen
                have := ok.le
                exact Nat.le_of_lt (small_sz (by show _ + 1 ≤ 2000; omega))
              · have e5 := (e4.trans (Ext.upd hD5 (o := .lst [oV (some p)]))).trans (Ext.upd hD6 (o := .lst ((R.2.filter (fun o => decide (o ≠ p))).map nI ++ [oV (some p)])))
                have e5s := e5 _ _ hS3
                refine ⟨e3.trans e5, D6, _, _, rfl, e5s, ?_, fun z => ?_⟩
                · rw [upd_same, put, List.map_append]
                  rfl
                · rw [z] at hD6
                  rw [(e4.trans (Ext.upd hD5 (o := .lst [oV (some p)]))) _ _ hS3] at hD6
                  cases hD6
    · obtain ⟨e, po, o4, o5, rfl, hS, hO, hne⟩ := pv
      rw [List.length_map, List.take_length] at hS hO
      refine ⟨_, rfl, D, _, rfl, SqL.of hS, fun t o ht ho => ?_⟩
      refine ⟨_, rfl, po, _, rfl, .inl ⟨SqL.of (Ext.upd ht _ _ hO), fun t2 ht2 => ⟨by show 2 ≤ sizeLine; decide, fun q2 hq => ?_⟩⟩⟩
      refine q _ _ _ _ ((((e.trans (Ext.upd ht)).trans (Ext.upd ht2)).trans (Ext.upd hq))) upd_same ⟨o, ?_, ho⟩ (SqT.of ?_)
      · exact Ext.upd hq _ _ (Ext.upd ht2 _ _ upd_same)
      · exact Ext.upd hq _ _ upd_same
end
end K02

set_option Elab.async false
set_option maxRecDepth 100000
set_option maxHeartbeats 4000000
namespace K02
open PySem PySem.Spec PyProof.Rows L2
def bF (n : Nat) (ps po : Addr) : List (Str × V) := [("places", .int (n : Int)), ("slots", .ref ps), ("order", .ref po)]
def Good (n : Nat) (s : St Str) : Prop := n ≤ 4 ∧ ∃ ns, Ok n s ns ∧ ∀ x, x ∈ ns → nameS x = true
theorem names_yes : ∀ {ds : List PyData}, badAt ds = none → ∃ us : List Str, ds = us.map PyData.str ∧ ∀ u, u ∈ us → nameS u = true
  | [], _ => ⟨[], rfl, fun _ h => nomatch h⟩
  | d :: ds, h => by
    unfold badAt at h
    rw [List.findIdx?_eq_none_iff] at h
    obtain ⟨us, rfl, hu⟩ := names_yes (ds := ds) (List.findIdx?_eq_none_iff.mpr fun x hx => h x (List.mem_cons_of_mem _ hx))
    have z := h d List.mem_cons_self
    cases d with
    | str s =>
      refine ⟨s :: us, rfl, fun u hu' => ?_⟩
      rcases List.mem_cons.mp hu' with rfl | hu'
      · have z' : (!nameS u) = false := z
        cases hs : nameS u with
        | true => rfl
        | false => rw [hs] at z'; cases z'
      · exact hu u hu'
    | _ => cases z
theorem names_ok : ∀ {us : List Str}, (∀ u, u ∈ us → nameS u = true) → badAt (us.map PyData.str) = none := fun h => by
  unfold badAt
  rw [List.findIdx?_eq_none_iff]
  intro x hx
  obtain ⟨u, hu, rfl⟩ := List.mem_map.mp hx
  show (!nameS u) = false
  rw [h u hu]
  rfl
theorem good_run {n : Nat} (hn : n ≤ 4) {us : List Str} (h : ∀ u, u ∈ us → nameS u = true) : Good n (run n us) := by
  obtain ⟨ns, o, hs⟩ := ok_run (n := n) us
  exact ⟨hn, ns, o, fun x hx => h x (hs x hx)⟩
theorem good_step {n : Nat} {s : St Str} (g : Good n s) {h : Str} (hh : nameS h = true) : Good n (step s h) := by
  obtain ⟨hn, ns, o, hs⟩ := g
  obtain ⟨ns', o', h'⟩ := ok_step o h
  refine ⟨hn, ns', o', fun x hx => ?_⟩
  rcases h' x hx with h | rfl
  · exact hs x h
  · exact hh
section
variable {P : Program} {w : World} {K : PySem.W.Frag} {mg : Str → Option Value} {base : Heap} {A : Ad}
theorem dps_str {H : Hp} : ∀ {us : List Str} {xs : List V}, DpAll K H xs (us.map PyData.str) → xs = us.map V.str
  | [], _, h => by cases h; rfl
  | u :: us, _, h => by
    cases h with
    | cons a b =>
      cases a
      rw [dps_str b]
      rfl
theorem str_dps {H : Hp} : ∀ {us : List Str}, DpAll K H (us.map V.str) (us.map PyData.str)
  | [] => .nil
  | u :: us => .cons (.str u) str_dps
/-- a book at b: its places, its slots and their order -/
def BkAt (K : PySem.W.Frag) (A : Ad) (H : Hp) (b : Addr) (n : Nat) (s : St Str) : Prop := ∃ dx ps po, H b = some (.ins A.Book dx (bF n ps po)) ∧ FrzT H ps (s.1.map sV) ∧ SqT K H po (s.2.map nI)
theorem BkAt.ext {H H' : Hp} {b : Addr} {n : Nat} {s : St Str} (h : BkAt K A H b n s) (e : Ext H H') : BkAt K A H' b n s := by
  obtain ⟨dx, ps, po, h1, h2, h3⟩ := h
  exact ⟨dx, ps, po, e _ _ h1, h2.ext e, h3.ext e⟩
def spBookInit (K : PySem.W.Frag) (A : Ad) : Sp := fun vs H Q E => ∃ (p dx : Addr) (vp vu : V) (dp du : PyData), vs = [.ref p, vp, vu] ∧ H p = some (.ins A.Book dx []) ∧ Dp K H vp dp ∧ Dp K H vu du ∧ (∀ ds, itemsD du = some ds → ∀ x ∈ ds, SmD x) ∧
  (betD dp 0 4 = false → ErrP A E H "places") ∧ (betD dp 0 4 = true → isSeqD du = false → ErrH A E H .non) ∧ (betD dp 0 4 = true → ∀ ds i, itemsD du = some ds → badAt ds = some i → ErrH A E H (.int (i : Nat))) ∧
  (∀ (n : Nat) (us : List Str), dp = .int (n : Int) → n ≤ 4 → itemsD du = some (us.map PyData.str) → (∀ u, u ∈ us → nameS u = true) → ∀ H', BkAt K A H' p n (run n us) → (∀ x o, x ≠ p → H x = some o → H' x = some o) → Q .non H')
theorem sqT_mut {H H' : Hp} {p a C dx : Addr} {fs : List (Str × V)} {xs : List V} (hp : H p = some (.ins C dx fs)) (e : ∀ x o, x ≠ p → H x = some o → H' x = some o) (h : SqT K H a xs) : SqT K H' a xs := by
  rcases h with (h | ⟨o, h⟩) | h
  · exact .inl (.inl (e a _ (fun z => by rw [z, hp] at h; cases h) h))
  · exact .inl (.inr ⟨o, e a _ (fun z => by rw [z, hp] at h; cases h) h⟩)
  · exact .inr h
theorem frz_mut {H H' : Hp} {p a C dx : Addr} {fs : List (Str × V)} {xs : List V} (hp : H p = some (.ins C dx fs)) (e : ∀ x o, x ≠ p → H x = some o → H' x = some o) (h : FrzT H a xs) : FrzT H' a xs := by
  obtain ⟨o, h, d⟩ := h
  exact ⟨o, e a _ (fun z => by rw [z, hp] at h; cases h) h, d⟩
theorem ok_bookInit {f : Addr} {fd : FuncData} (F : FunD K "__init__" "Book.__init__" (defArgs s_Book_init) (defBody s_Book_init) (defScope s_Book_init) [.ref A.T0] [] f fd) (T : Txt K mg A)
    (O_check_places : Own P w K mg base (L2.CX P w) "check_places" 4 pm_check_places (spPlaces K A)) (O_check_heads : Own P w K mg base (L2.CX P w) "check_heads" 3 pm_check_heads (spHeads K A)) (O_slots_behind : Own P w K mg base CX0 "slots_behind" 2 pm_slots_behind (spBehind K)) :
    FnOk P w K mg base (L2.CX P w) 5 f fd pm_Book_init (spBookInit K A) := by
  refine F.ok sc_Book_init (fun vs H Q E h => ?_) (fun cdv A' outer s H vs Q E hr h => ?_)
  · obtain ⟨_, _, _, _, _, _, rfl, _⟩ := h
    rfl
  · obtain ⟨p, dx, vp, vu, dp, du, rfl, hp, hvp, hvu, hsm, q1, q2, q3, q4⟩ := h
    refine ⟨_, pss_cons (ps_expr (pe_ownS O_check_places (hr.mono (by decide)) (takes_of rfl rfl rfl rfl) (pa_cons (pv 1) pa_nil)))
      (pss_cons (ps_expr (pe_ownS O_check_heads (hr.mono (by decide)) (takes_of rfl rfl rfl rfl) (pa_cons (pv 2) pa_nil)))
      (pss_cons (ps_asg (pe_own O_slots_behind (hr.mono (by decide)) pass0 (pa_cons (pv 1) (pa_cons (pv 2) pa_nil))) (pg_tup rfl (pgs_cons (pg_name (i := 3) sc_Book_init.nd rfl (Or.inl rfl)) (pgs_cons (pg_name (i := 4) sc_Book_init.nd rfl (Or.inl rfl)) (pgs_nil)))))
      (pss_cons (ps_fld (pv 0) (pv 1) rfl)
      (pss_cons (ps_fld (pv 0) (pv 3) rfl)
      (pss_one (ps_fld (pv 0) (pv 4) rfl)))))), ?_⟩
    refine ⟨vp, rfl, vp, dp, rfl, hvp, q1, fun hb => ?_⟩
    obtain ⟨m, rfl, hm0, hm4⟩ := bet_yes hb
    obtain rfl := dp_int hvp
    obtain ⟨n, rfl⟩ := Int.eq_ofNat_of_zero_le hm0
    refine ⟨vu, rfl, vu, du, rfl, hvu, hsm, q2 hb, q3 hb, fun ds hit hbad H1 e1 => ?_⟩
    obtain ⟨us, rfl, hus⟩ := names_yes hbad
    have hsq : isSeqD du = true := by cases du <;> first | rfl | cases hit
    obtain ⟨a, xs, ds', rfl, hx, ha, hd⟩ := dp_seq (dp_ext e1 _ _ hvu) hsq
    have he : ds' = us.map PyData.str := by
      rcases hd with rfl | rfl
      · exact Option.some.inj hit
      · exact Option.some.inj hit
    subst he
    obtain rfl := dps_str ha
    refine ⟨_, rfl, _, rfl, n, a, us, rfl, hx, by omega, fun q ps po H2 e2 hq hps hpo => ?_⟩
    have hp2 := (e1.trans e2) _ _ hp
    refine ⟨q, _, rfl, SqT.of hq, rfl, _, _, rfl, _, _, rfl, rfl, ?_⟩
    refine ⟨_, rfl, _, rfl, p, A.Book, dx, _, rfl, hp2, T.Book.cl, T.b_places, (by show 0 < 1000; decide), ?_⟩
    refine ⟨_, rfl, _, rfl, p, A.Book, dx, _, rfl, upd_same, T.Book.cl, T.b_slots, (by show 1 < 1000; decide), ?_⟩
    refine ⟨_, rfl, _, rfl, p, A.Book, dx, _, rfl, upd_same, T.Book.cl, T.b_order, (by show 2 < 1000; decide), ?_⟩
    rw [upd_upd, upd_upd]
    have hm : ∀ (o : HO) x u, x ≠ p → H2 x = some u → upd H2 p o x = some u := fun o x u hx h => by
      rw [upd_ne hx]
      exact h
    refine q4 n us rfl (by omega) hit hus _ ⟨dx, ps, po, upd_same, frz_mut hp2 (hm _) hps, sqT_mut hp2 (hm _) hpo⟩ fun x o hx ho => hm _ _ _ hx ((e1.trans e2) _ _ ho)
end
end K02

set_option Elab.async false
set_option maxRecDepth 100000
set_option maxHeartbeats 4000000
namespace K02
open PySem PySem.Spec PyProof.Rows L2
theorem al_small : ∀ c ∈ (("abcdefghijklmnopqrstuvwxyz" : Str)).cps.toList, c < 128 := by decide +kernel
theorem name_ok {s : Str} (h : nameS s = true) : PyData.strOk s = true := by
  unfold nameS at h
  rw [Bool.and_eq_true, List.all_eq_true] at h
  unfold PyData.strOk
  rw [← Array.all_toList, List.all_eq_true]
  intro c hc
  have z := h.2 c hc
  unfold inAl at z
  rw [decide_eq_true_eq] at z
  have := al_small c z
  rw [decide_eq_true_eq]
  omega
theorem name_len {s : Str} (h : nameS s = true) : s.length ≤ 8 := by
  unfold nameS at h
  rw [Bool.and_eq_true, Bool.and_eq_true, decide_eq_true_eq, decide_eq_true_eq] at h
  omega
theorem fl_sV {s : St Str} {n : Nat} (g : Good n s) : ∀ v ∈ s.1.map sV, Fl v := by
  intro v hv
  obtain ⟨o, ho, rfl⟩ := List.mem_map.mp hv
  cases o with
  | none => trivial
  | some x =>
    obtain ⟨_, ns, ok, hs⟩ := g
    exact name_ok (hs x (ok.mem.mp ho))
theorem fl_nI {O : List Nat} : ∀ v ∈ O.map nI, Fl v := by
  intro v hv
  obtain ⟨o, _, rfl⟩ := List.mem_map.mp hv
  trivial
theorem eqv_sV : ∀ S T : List (Option Str), PyData.eqvAll ((S.map sV).map pd) ((T.map sV).map pd) = decide (S = T)
  | [], [] => rfl
  | [], _ :: _ => rfl
  | _ :: _, [] => rfl
  | a :: S, b :: T => by
    show (PyData.eqv (pd (sV a)) (pd (sV b)) && PyData.eqvAll ((S.map sV).map pd) ((T.map sV).map pd)) = _
    rw [eqv_sV S T, Bool.eq_iff_iff]
    have e : PyData.eqv (pd (sV a)) (pd (sV b)) = decide (a = b) := by
      cases a with
      | none => cases b <;> rfl
      | some a =>
        cases b with
        | none => rfl
        | some b =>
          show (a == b) = _
          rw [Bool.eq_iff_iff]
          simp
    rw [e]
    simp
theorem eqv_nI : ∀ O L : List Nat, PyData.eqvAll ((O.map nI).map pd) ((L.map nI).map pd) = decide (O = L)
  | [], [] => rfl
  | [], _ :: _ => rfl
  | _ :: _, [] => rfl
  | a :: S, b :: T => by
    show (((a : Int) == (b : Int)) && PyData.eqvAll ((S.map nI).map pd) ((T.map nI).map pd)) = _
    rw [eqv_nI S T, Bool.eq_iff_iff]
    simp
    omega
def inBk : PyData → St Str → Bool | .str x, s => decide (some x ∈ s.1) | _, _ => false
def placeD : PyData → St Str → Option Nat | .str x, s => if some x ∈ s.1 then some (at1 s.1 (some x)) else none | _, _ => none
section
variable {P : Program} {w : World} {K : PySem.W.Frag} {mg : Str → Option Value} {base : Heap} {A : Ad}
def spHeld (K : PySem.W.Frag) (A : Ad) : Sp := fun vs H Q _ => ∃ b dx ps po n, vs = [.ref b] ∧ H b = some (.ins A.Book dx (bF n ps po)) ∧ Q (.ref ps) H
theorem ok_held {f : Addr} {fd : FuncData} (F : Fun K "held" "Book.held" s_Book_held f fd) (T : Txt K mg A) : FnOk P w K mg base CX0 1 f fd pm_Book_held (spHeld K A) := by
  refine F.ok sc_Book_held (fun vs H Q E h => ?_) (fun cdv A' outer s H vs Q E hr h => ?_)
  · obtain ⟨_, _, _, _, _, rfl, _⟩ := h
    rfl
  · obtain ⟨b, dx, ps, po, n, rfl, hb, q⟩ := h
    refine ⟨_, pss_one (ps_ret (pe_fld (pv 0) rfl)), ?_⟩
    exact ⟨_, rfl, b, A.Book, dx, _, _, rfl, hb, T.Book.cl, T.b_slots, rfl, q⟩
def spOldest (K : PySem.W.Frag) (A : Ad) : Sp := fun vs H Q _ => ∃ b n s, vs = [.ref b] ∧ BkAt K A H b n s ∧ ∀ l, H l = none → Q (.ref l) (upd H l (.lst (s.2.map nI)))
theorem ok_oldest {f : Addr} {fd : FuncData} (F : Fun K "oldest_first" "Book.oldest_first" s_Book_oldest_first f fd) (T : Txt K mg A) : FnOk P w K mg base CX0 1 f fd pm_Book_oldest_first (spOldest K A) := by
  refine F.ok sc_Book_oldest_first (fun vs H Q E h => ?_) (fun cdv A' outer s H vs Q E hr h => ?_)
  · obtain ⟨_, _, _, rfl, _⟩ := h
    rfl
  · obtain ⟨b, n, s, rfl, ⟨dx, ps, po, hb, hs, ho⟩, q⟩ := h
    refine ⟨_, pss_one (ps_ret (pe_callTy call_list_of (by rfl) T.n_list (by decide +kernel) (pa_cons (pe_fld (pv 0) rfl) pa_nil))), ?_⟩
    exact ⟨_, rfl, b, A.Book, dx, _, _, rfl, hb, T.Book.cl, T.b_order, rfl, po, _, rfl, .inr ho, q⟩
def spIn (K : PySem.W.Frag) (A : Ad) : Sp := fun vs H Q _ => ∃ b n s v d, vs = [.ref b, v] ∧ BkAt K A H b n s ∧ Dp K H v d ∧ Q (.bl (inBk d s)) H
theorem ok_in {f : Addr} {fd : FuncData} (F : Fun K "__contains__" "Book.__contains__" s_Book_contains f fd) (T : Txt K mg A) : FnOk P w K mg base CX0 1 f fd pm_Book_contains (spIn K A) := by
  refine F.ok sc_Book_contains (fun vs H Q E h => ?_) (fun cdv A' outer s H vs Q E hr h => ?_)
  · obtain ⟨_, _, _, _, _, rfl, _⟩ := h
    rfl
  · obtain ⟨b, n, s, v, d, rfl, ⟨dx, ps, po, hb, hs, ho⟩, hd, q⟩ := h
    refine ⟨_, pss_one (ps_ret (pe_and (pe_callB call_isi (by rfl) T.n_isinstance (by decide +kernel) (pa_cons (pv 1) (pa_cons (pe_bltn (v := .ty "str") (by rfl) T.n_str (by decide +kernel) rfl) pa_nil))) (pe_one (pe_cmpR op_in_seq (pv 1) (pe_fld (pv 0) rfl) (by with_unfolding_all rfl))))), ?_⟩
    refine ⟨v, rfl, v, .ty "str", .type (tnD d), .type "str", isStrD d, rfl, .ty _, dp_ty hd, kd_str, _, rfl, ?_⟩
    cases h1 : isStrD d with
    | false =>
      rw [show inBk d s = false by cases d <;> first | rfl | cases h1] at q
      exact iteF q
    | true =>
      obtain ⟨z, rfl, rfl⟩ := str_yes hd h1
      refine iteT ⟨_, rfl, _, rfl, b, A.Book, dx, _, _, rfl, hb, T.Book.cl, T.b_slots, rfl, ps, _, rfl, .inr hs.sqT, rfl, flat_sV, ?_⟩
      rw [show (if false = true then !inV (V.str z) (s.1.map sV) else inV (V.str z) (s.1.map sV)) = decide (some z ∈ s.1) from in_sV (some z) s.1]
      exact q
def spPlaceOf (K : PySem.W.Frag) (A : Ad) : Sp := fun vs H Q _ => ∃ b n s v d, vs = [.ref b, v] ∧ BkAt K A H b n s ∧ Dp K H v d ∧ Q (oV (placeD d s)) H
theorem ok_placeOf {f : Addr} {fd : FuncData} (F : Fun K "place_of" "Book.place_of" s_Book_place_of f fd) (T : Txt K mg A) (O_Book_contains : OwnM P w K mg base CX0 A.Book "__contains__" 1 pm_Book_contains (spIn K A)) : FnOk P w K mg base CX0 2 f fd pm_Book_place_of (spPlaceOf K A) := by
  refine F.ok sc_Book_place_of (fun vs H Q E h => ?_) (fun cdv A' outer s H vs Q E hr h => ?_)
  · obtain ⟨_, _, _, _, _, rfl, _⟩ := h
    rfl
  · obtain ⟨b, n, s, v, d, rfl, hB, hd, q⟩ := h
    refine ⟨_, pss_one (ps_ret (pe_ifExp (pt_cmpR (inO O_Book_contains (hr.mono (by decide)) pass0) (pv 1) (pv 0) (by with_unfolding_all rfl)) (pe_tm PySem.F.slot_tuple_index PySem.F.type_tuple_index mt_tupIndex (pe_fld (pv 0) rfl) (pa_cons (pv 1) pa_nil)) (pe_non))), ?_⟩
    obtain ⟨dx, ps, po, hb, hs, ho⟩ := id hB
    refine ⟨_, rfl, _, rfl, b, dx, _, rfl, hb, b, n, s, v, d, rfl, hB, hd, _, rfl, _, rfl, ?_⟩
    cases h1 : inBk d s with
    | false =>
      refine iteF ?_
      have e : placeD d s = none := by
        cases d <;> first | rfl | skip
        exact if_neg (of_decide_eq_false h1)
      rw [e] at q
      exact q
    | true =>
      cases d <;> first | cases h1 | skip
      rename_i x
      cases hd
      have hm : some x ∈ s.1 := of_decide_eq_true h1
      have e : placeD (.str x) s = some (at1 s.1 (some x)) := if_pos hm
      rw [e] at q
      obtain ⟨a1, a2⟩ := at_sV hm
      exact iteT ⟨_, rfl, b, A.Book, dx, _, _, rfl, hb, T.Book.cl, T.b_slots, rfl, ps, _, rfl, hs, _, rfl, ps, _, .str x, _, _, rfl, rfl, hs.sqT, rfl, flat_sV, a1, by show eqV (sV (some x)) (sV (some x)) = true; rw [eq_sV]; exact decide_eq_true rfl, a2, q⟩
def spNextPlace (K : PySem.W.Frag) (A : Ad) : Sp := fun vs H Q _ => ∃ b n s, vs = [.ref b] ∧ BkAt K A H b n s ∧ Good n s ∧ Q (oV (nextP s)) H
def spLen (K : PySem.W.Frag) (A : Ad) : Sp := fun vs H Q _ => ∃ b n s, vs = [.ref b] ∧ BkAt K A H b n s ∧ Q (.int (s.2.length : Int)) H
theorem ok_len {f : Addr} {fd : FuncData} (F : Fun K "__len__" "Book.__len__" s_Book_len f fd) (T : Txt K mg A) : FnOk P w K mg base CX0 1 f fd pm_Book_len (spLen K A) := by
  refine F.ok sc_Book_len (fun vs H Q E h => ?_) (fun cdv A' outer s H vs Q E hr h => ?_)
  · obtain ⟨_, _, _, rfl, _⟩ := h
    rfl
  · obtain ⟨b, n, s, rfl, ⟨dx, ps, po, hb, hs, ho⟩, q⟩ := h
    refine ⟨_, pss_one (ps_ret (pe_callB call_len_seq (by rfl) T.n_len (by decide +kernel) (pa_cons (pe_fld (pv 0) rfl) pa_nil))), ?_⟩
    refine ⟨_, rfl, b, A.Book, dx, _, _, rfl, hb, T.Book.cl, T.b_order, rfl, po, _, rfl, .inr ho, ?_⟩
    rw [List.length_map]
    exact q
def spEq (K : PySem.W.Frag) (A : Ad) : Sp := fun vs H Q _ => ∃ b n s v, vs = [.ref b, v] ∧ BkAt K A H b n s ∧ Good n s ∧
  ((∃ c m t, v = .ref c ∧ BkAt K A H c m t ∧ Good m t ∧ Q (.bl (decide (n = m ∧ s = t))) H) ∨ ∃ d, Dp K H v d ∧ Q (.bl false) H)
theorem ok_eq {f : Addr} {fd : FuncData} (F : Fun K "__eq__" "Book.__eq__" s_Book_eq f fd) (T : Txt K mg A) : FnOk P w K mg base CX0 1 f fd pm_Book_eq (spEq K A) := by
  refine F.ok sc_Book_eq (fun vs H Q E h => ?_) (fun cdv A' outer s H vs Q E hr h => ?_)
  · obtain ⟨_, _, _, _, rfl, _⟩ := h
    rfl
  · obtain ⟨b, n, s, v, rfl, ⟨dx, ps, po, hb, hs, ho⟩, g, h⟩ := h
    refine ⟨_, pss_cons (ps_if (pt_not (pt_val (pe_callB call_isi (by rfl) T.n_isinstance (by decide +kernel) (pa_cons (pv 1) (pa_cons (pe_gcls T.Book.gC) pa_nil))))) (pss_one (ps_ret (pe_bl))) (pss_nil))
      (pss_one (ps_ret (pe_and (pe_cmpR op_eq (pe_fld (pv 0) rfl) (pe_fld (pv 1) rfl) (nomark _)) (pe_and (pe_cmpR (op_eqD hr.units) (pe_fld (pv 0) rfl) (pe_fld (pv 1) rfl) (nomark _)) (pe_one (pe_cmpR (op_eqD hr.units) (pe_fld (pv 0) rfl) (pe_fld (pv 1) rfl) (nomark _))))))), ?_⟩
    rcases h with ⟨c, m, t, rfl, ⟨dy, pt, pp, hc, ht, hp⟩, g2, k⟩ | ⟨d, hd, h⟩
    · refine ⟨_, rfl, _, .ref A.Book, .ref A.Book, .ref A.Book, true, rfl, .own _, T.Book.tyOf hc, T.Book.me, _, rfl, ?_⟩
      refine iteF ?_
      refine ⟨_, rfl, b, A.Book, dx, _, _, rfl, hb, T.Book.cl, T.b_places, rfl, _, rfl, c, A.Book, dy, _, _, rfl, hc, T.Book.cl, T.b_places, rfl, rfl, _, rfl, ?_⟩
      rw [dvi]
      by_cases h1 : n = m
      · rw [decide_eq_true (show (n : Int) = (m : Int) by omega)]
        refine iteT ⟨_, rfl, b, A.Book, dx, _, _, rfl, hb, T.Book.cl, T.b_slots, rfl, _, rfl, c, A.Book, dy, _, _, rfl, hc, T.Book.cl, T.b_slots, rfl, eqD_tup hs.sqT ht.sqT (fl_sV g) (fl_sV g2) ⟨_, rfl, ?_⟩⟩
        rw [eqv_sV]
        by_cases h2 : s.1 = t.1
        · rw [decide_eq_true h2]
          refine iteT ⟨_, rfl, b, A.Book, dx, _, _, rfl, hb, T.Book.cl, T.b_order, rfl, _, rfl, c, A.Book, dy, _, _, rfl, hc, T.Book.cl, T.b_order, rfl, eqD_tup ho hp fl_nI fl_nI ?_⟩
          rw [eqv_nI]
          have e : decide (n = m ∧ s = t) = decide (s.2 = t.2) := by
            rw [decide_eq_decide]
            exact ⟨fun z => by rw [z.2], fun z => ⟨h1, Prod.ext h2 z⟩⟩
          rw [e] at k
          exact k
        · rw [decide_eq_false h2]
          rw [decide_eq_false fun z => h2 (by rw [z.2])] at k
          exact iteF k
      · rw [decide_eq_false (show ¬ (n : Int) = (m : Int) by omega)]
        rw [decide_eq_false fun z => h1 z.1] at k
        exact iteF k
    · refine ⟨_, rfl, _, .ref A.Book, .type (tnD d), .ref A.Book, false, rfl, .own _, dp_ty hd, T.Book.kitB (sub_ty_ref kd_find) rfl, _, rfl, ?_⟩
      exact iteT h
end
end K02

set_option Elab.async false
set_option maxRecDepth 100000
set_option maxHeartbeats 4000000
namespace K02
open PySem PySem.Spec PyProof.Rows L2
theorem held_V : ∀ S : List (Option Str), (S.map sV).filter (fun v => !decide (v = .non)) = (S.filterMap id).map V.str
  | [] => rfl
  | none :: S => by
    rw [List.map_cons, List.filter_cons, List.filterMap_cons]
    exact held_V S
  | some s :: S => by
    rw [List.map_cons, List.filter_cons, List.filterMap_cons]
    show V.str s :: (S.map sV).filter _ = V.str s :: (S.filterMap id).map V.str
    rw [held_V S]
def getV (S : List (Option Str)) (v : V) : V := match v with | .int i => ((S.map sV)[i.toNat]?).getD .non | _ => .non
theorem names_at {n : Nat} {s : St Str} {ns : List Str} (o : Ok n s ns) : ∃ us : List Str, (s.2.map nI).map (getV s.1) = us.map V.str ∧ us.length = s.2.length ∧ (∀ j i : Nat, s.2[j]? = some i → us[j]? = ns[i]?) ∧ ∀ x, x ∈ us → x ∈ ns := by
  refine ⟨s.2.map fun i => (ns[i]?).getD "", ?_, by rw [List.length_map], fun j i hj => ?_, fun x hx => ?_⟩
  · rw [List.map_map, List.map_map]
    refine List.map_congr_left fun i hi => ?_
    have hl := o.omem.mp hi
    show (((s.1.map sV)[(i : Int).toNat]?).getD .non) = V.str _
    rw [show (i : Int).toNat = i by omega, List.getElem?_map, o.get hl]
    show V.str ns[i] = V.str ((ns[i]?).getD "")
    rw [List.getElem?_eq_getElem hl]
    rfl
  · have hl := o.omem.mp (List.mem_of_getElem? hj)
    rw [List.getElem?_map, hj]
    show some ((ns[i]?).getD "") = ns[i]?
    rw [List.getElem?_eq_getElem hl]
    rfl
  · obtain ⟨i, hi, rfl⟩ := List.mem_map.mp hx
    have hl := o.omem.mp hi
    rw [List.getElem?_eq_getElem hl]
    exact List.getElem_mem hl
section
variable {P : Program} {w : World} {K : PySem.W.Frag} {mg : Str → Option Value} {base : Heap} {A : Ad}
theorem mk_book {H1 : Hp} {v : V} {du : PyData} {n : Nat} {us : List Str} {R : VK} {E : XK} {x0 dx : Addr} (hx0 : H1 x0 = none) (hdx : H1 dx = none) (hne : dx ≠ x0) (hn : n ≤ 4) (hv : Dp K H1 v du) (hit : itemsD du = some (us.map PyData.str)) (hus : ∀ u, u ∈ us → nameS u = true)
    (q : ∀ H', Ext H1 H' → BkAt K A H' x0 n (run n us) → R .non H') : spBookInit K A [.ref x0, .int (n : Int), v] (upd (upd H1 dx (.own x0)) x0 (.ins A.Book dx [])) R E := by
  have e0 := (Ext.upd (o := .own x0) hdx).upd' (o := .ins A.Book dx []) (by rw [upd_ne hne.symm]; exact hx0)
  have hb : betD (.int (n : Int)) 0 4 = true := by
    rw [bet_int, decide_eq_true (show (0 : Int) ≤ n by omega), decide_eq_true (show (n : Int) ≤ 4 by omega)]
    rfl
  have hsq : isSeqD du = true := by cases du <;> first | rfl | cases hit
  refine ⟨x0, dx, _, v, .int (n : Int), du, rfl, upd_same, .int _, dp_ext e0 _ _ hv, fun ds hd x hx => ?_, fun z => (by rw [hb] at z; cases z), fun _ z => (by rw [hsq] at z; cases z), fun _ ds i hd hbad => ?_, fun m us' hm _ hd _ H' hB hE => ?_⟩
  · rw [hit] at hd
    cases hd
    obtain ⟨u, hu, rfl⟩ := List.mem_map.mp hx
    have := name_len (hus u hu)
    show u.length ≤ 1000
    omega
  · rw [hit] at hd
    cases hd
    rw [names_ok hus] at hbad
    cases hbad
  · rw [hit] at hd
    have e1 : us.map PyData.str = us'.map PyData.str := Option.some.inj hd
    have e2 : us = us' := by
      have := congrArg (List.filterMap fun d => match d with | PyData.str s => some s | _ => none) e1
      rw [List.filterMap_map, List.filterMap_map] at this
      have z : ∀ l : List Str, l.filterMap ((fun d => match d with | PyData.str s => some s | _ => none) ∘ PyData.str) = l := fun l => List.filterMap_some
      rw [z, z] at this
      exact this
    have e3 : (n : Int) = (m : Int) := by injection hm
    have e4 : n = m := by omega
    subst e4 e2
    exact q H' (fun a o h => hE a o (ne_of_none h hx0) (e0 a o h)) hB
def ErrN (A : Ad) (E : XK) (H : Hp) (v : V) : Prop := ∀ H', Ext H H' → ∀ e, H' e = none → E (.ref A.BadName) (some e) (upd H' e (.xd [("name", v)]))
def spUsed (K : PySem.W.Frag) (A : Ad) : Sp := fun vs H Q E => ∃ b n s v d, vs = [.ref b, v] ∧ BkAt K A H b n s ∧ Good n s ∧ Dp K H v d ∧ SmD d ∧ (nameD d = false → ErrN A E H v) ∧ ∀ h, d = .str h → nameS h = true → ∀ b' H', Ext H H' → BkAt K A H' b' n (step s h) → Q (.ref b') H'
theorem ok_used {f : Addr} {fd : FuncData} (F : Fun K "used" "Book.used" s_Book_used f fd) (T : Txt K mg A) (O_is_name : Own P w K mg base CX0 "is_name" 1 pm_is_name (spName K)) (X_BadName : XCls P w K mg base "BadName" "name" A.BadName)
    (O_Book : OwnC P w K mg base (L2.CX P w) "Book" A.Book 5 pm_Book_init (spBookInit K A)) : FnOk P w K mg base (L2.CX P w) 7 f fd pm_Book_used (spUsed K A) := by
  refine F.okX sc_Book_used (fun vs H Q E h => ?_) (fun cdv A' outer sh H vs Q E hr h => ?_)
  · obtain ⟨_, _, _, _, _, rfl, _⟩ := h
    rfl
  · obtain ⟨b, n, s, v, d, rfl, hB, g, hd, hsm, hE, q⟩ := h
    refine ⟨_, pss_cons (ps_if (pt_not (pt_val (pe_own O_is_name (hr.mono (by decide)) pass0 (pa_cons (pv 1) pa_nil)))) (pss_one (ps_raise rfl (takes_of rfl rfl rfl rfl) (pmk_X X_BadName (hr.mono (by decide)) (pv 1) rfl))) (pss_nil))
      (pss_cons (ps_setLc (i := 2) (own := [("old", 4)]) (g := gName 4) (by rfl) sc_Book_used.nd rfl rfl (sw_true rfl rfl rfl (by decide +kernel)) (pi_sq (pe_fld (pv 0) rfl)) (blkOk_by (own := [("old", 4)]) (N := nm_Book_used) (sc := defScope s_Book_used) (by decide +kernel)) (fun _ _ _ _ _ => pg_name (i := 4) sc_Book_used.nd rfl (Or.inl rfl)) (fun s1 H1 C1 cl fp => pts_one (pt_cmpR op_notN (pv 4) (pe_non) (nomark _))) (fun s1 H1 C1 cl fp => pv 4))
      (pss_cons (ps_setLc (i := 3) (own := [("place", 5)]) (g := gName 5) (by rfl) sc_Book_used.nd rfl rfl (sw_true rfl rfl rfl (by decide +kernel)) (pi_sq (pe_fld (pv 0) rfl)) (blkOk_by (own := [("place", 5)]) (N := nm_Book_used) (sc := defScope s_Book_used) (by decide +kernel)) (fun _ _ _ _ _ => pg_name (i := 5) sc_Book_used.nd rfl (Or.inl rfl)) (fun s1 H1 C1 cl fp => pts_nil) (fun s1 H1 C1 cl fp => pe_ix (ix_tupK (K := K) rfl) (pe_fldK (K := K) rfl (pv 0) rfl) (pv 5) (fun _ _ => rfl)))
      (pss_one (ps_ret (pe_new O_Book (hr.mono (by decide)) passL (pa_cons (pe_fld (pv 0) rfl) (pa_cons (pe_lst (StX.pa_star (pv 2) (StX.pa_star (pv 3) (pa_cons (pv 1) pa_nil)))) pa_nil))))))), ?_⟩
    refine ⟨v, rfl, v, d, rfl, hd, hsm, fun H1 e1 => ⟨_, rfl, ?_⟩⟩
    cases h1 : nameD d with
    | false => exact iteT ⟨_, rfl, mkX_fin fun e he => hE h1 _ e1 e he⟩
    | true =>
      cases d <;> first | cases h1 | skip
      rename_i h
      cases hd
      obtain ⟨dx, ps, po, hb, hs, ho⟩ := hB.ext e1
      obtain ⟨hn, ns, ok, hns⟩ := id g
      have hh : nameS h = true := h1
      refine iteF ⟨_, rfl, b, A.Book, dx, _, _, rfl, hb, T.Book.cl, T.b_slots, rfl, ps, rfl, lc_sqG (xs := s.1.map sV) (f := fun v => v) (b := fun v => !decide (v = .non)) (.inr hs.sqT) ?_ (fun _ => rfl) (fun x hx H4 e4 Q' hq => ?_) (fun x _ _ H4 e4 Q' hq => ?_) (fun D2 H2 hD2 e2 hl2 => ?_)⟩
      · rw [List.length_map, ok.len]
        exact small_sz (by omega)
      · exact ⟨_, rfl, rfl, _, rfl, hq _ Ext.rfl'⟩
      · exact ⟨_, rfl, hq _ Ext.rfl'⟩
      · rw [List.map_id', held_V, held_names ok] at hl2
        obtain ⟨us, u1, u2, u3, u4⟩ := names_at ok
        refine ⟨_, rfl, b, A.Book, dx, _, _, rfl, e2 _ _ hb, T.Book.cl, T.b_order, rfl, po, rfl, lc_sqG (xs := s.2.map nI) (f := getV s.1) (b := fun _ => true) (.inr (ho.ext e2)) ?_ (fun _ => rfl) (fun x hx H4 e4 Q' hq => ?_) (fun x hx _ H4 e4 Q' hq => ?_) (fun D3 H3 hD3 e3 hl3 => ?_)⟩
        · rw [List.length_map, ok.olen]
          have := ok.le
          exact small_sz (by omega)
        · exact hq _ Ext.rfl'
        · obtain ⟨i, hi, rfl⟩ := List.mem_map.mp hx
          have hl := ok.omem.mp hi
          refine ⟨_, rfl, b, A.Book, dx, _, _, rfl, (e2.trans e4) _ _ hb, T.Book.cl, T.b_slots, rfl, _, rfl, ps, _, (i : Int), _, rfl, rfl, (hs.ext (e2.trans e4)).sqT, ?_, hq _ Ext.rfl'⟩
          refine atI_nat ?_
          show _ = some (((s.1.map sV)[(i : Int).toNat]?).getD .non)
          rw [show (i : Int).toNat = i by omega, List.getElem?_map, ok.get hl]
          rfl
        · rw [L2.filter_all, u1] at hl3
          refine ⟨_, rfl, b, A.Book, dx, _, _, rfl, (e2.trans e3) _ _ hb, T.Book.cl, T.b_places, rfl, ?_⟩
          have hw := e3 _ _ hl2
          refine ⟨_, rfl, D2, _, rfl, .inr (SqL.of hw), _, rfl, D3, _, rfl, .inr (SqL.of hl3), _, rfl, ?_, fun D4 hD4 => ?_⟩
          · rw [List.length_append, List.length_append, List.length_map, List.length_map, u2, ok.olen]
            have := ok.le
            exact Nat.le_of_lt (small_sz (by show _ + (_ + 1) ≤ 2000; omega))
          · have e5 : ns.map V.str ++ (us.map V.str ++ [V.str h]) = (ns ++ us ++ [h]).map V.str := by
              rw [List.map_append, List.map_append, List.append_assoc]
              rfl
            rw [e5]
            refine fun x0 dn hx0 hdx0 hne0 => mk_book hx0 hdx0 hne0 hn (.lst (SqL.of upd_same) str_dps) rfl (fun u hu => ?_) fun H' e' hk => ⟨rfl, ?_⟩
            · rcases List.mem_append.mp hu with hu | hu
              · rcases List.mem_append.mp hu with hu | hu
                · exact hns u hu
                · exact hns u (u4 u hu)
              · rw [List.mem_singleton.mp hu]
                exact hh
            · rw [rebuilt ok u2 u3 h] at hk
              exact q h rfl hh _ _ ((((e1.trans e2).trans e3).trans (Ext.upd hD4)).trans e') hk
end
end K02

set_option Elab.async false
set_option maxRecDepth 100000
set_option maxHeartbeats 4000000
namespace K02
open PySem PySem.Spec PyProof.Rows L2
/-- the word for h -/
def wordV (s : St Str) (h : Str) : List V := if some h ∈ s.1 then [.str "short", nI (at1 s.1 (some h))] else [.str "long", .str h]
def readD (d : PyData) (n : Nat) (s : St Str) : Option Str := if wordD d = true then (match d with
  | .tuple [.str k, x] => if k = "long" then (match x with | .str h => some h | _ => none) else (match x with | .int i => if i < (n : Int) then (s.1[i.toNat]?).join else none | _ => none)
  | _ => none) else none
theorem word_shape {d : PyData} (h : wordD d = true) : (∃ i : Int, d = .tuple [.str "short", .int i] ∧ 0 ≤ i ∧ i ≤ 3) ∨ ∃ x, d = .tuple [.str "long", .str x] ∧ nameS x = true := by
  have shape : ∀ wd, toldD d wd 2 = true → ∃ d1, d = .tuple [.str wd, d1] := by
    clear h
    intro wd h
    unfold toldD at h
    split at h
    · rename_i s ds
      rw [Bool.and_eq_true, decide_eq_true_eq, decide_eq_true_eq] at h
      obtain ⟨h1, rfl⟩ := h
      match ds, h1 with
      | [d1], _ => exact ⟨d1, rfl⟩
    · cases h
  unfold wordD at h
  by_cases h1 : toldD d "short" 2 = true
  · rw [if_pos h1] at h
    obtain ⟨d1, rfl⟩ := shape _ h1
    obtain ⟨i, hi, a, b⟩ := bet_yes (show betD d1 0 3 = true from h)
    exact .inl ⟨i, by rw [hi], a, b⟩
  · rw [if_neg h1, Bool.and_eq_true] at h
    obtain ⟨d1, rfl⟩ := shape _ h.1
    have z : nameD d1 = true := h.2
    cases d1 <;> first | cases z | exact .inr ⟨_, rfl, z⟩
theorem read_name {d : PyData} {n : Nat} {s : St Str} (g : Good n s) {h : Str} (e : readD d n s = some h) : nameS h = true := by
  unfold readD at e
  by_cases h1 : wordD d = true
  · rw [if_pos h1] at e
    rcases word_shape h1 with ⟨i, rfl, _, _⟩ | ⟨x, rfl, hx⟩
    · dsimp only at e
      rw [if_neg (by decide)] at e
      by_cases h2 : i < (n : Int)
      · rw [if_pos h2] at e
        obtain ⟨_, ns, ok, hs⟩ := g
        refine hs h (ok.mem.mp ?_)
        cases hq : s.1[i.toNat]? with
        | none => rw [hq] at e; cases e
        | some o =>
          rw [hq] at e
          have e' : o = some h := e
          rw [← e']
          exact List.mem_of_getElem? hq
      · rw [if_neg h2] at e
        cases e
    · dsimp only at e
      rw [if_pos rfl] at e
      cases e
      exact hx
  · rw [if_neg h1] at e
    cases e
section
variable {P : Program} {w : World} {K : PySem.W.Frag} {mg : Str → Option Value} {base : Heap} {A : Ad}
def spWordFor (K : PySem.W.Frag) (A : Ad) : Sp := fun vs H Q E => ∃ b n s v d, vs = [.ref b, v] ∧ BkAt K A H b n s ∧ Dp K H v d ∧ SmD d ∧ (nameD d = false → ErrN A E H v) ∧ ∀ h, d = .str h → nameS h = true → ∀ t H', Ext H H' → H' t = some (.tup (wordV s h)) → Q (.ref t) H'
theorem ok_wordFor {f : Addr} {fd : FuncData} (F : Fun K "word_for" "Book.word_for" s_Book_word_for f fd) (T : Txt K mg A) (O_is_name : Own P w K mg base CX0 "is_name" 1 pm_is_name (spName K)) (X_BadName : XCls P w K mg base "BadName" "name" A.BadName)
    (O_Book_place_of : OwnM P w K mg base CX0 A.Book "place_of" 2 pm_Book_place_of (spPlaceOf K A)) : FnOk P w K mg base (L2.CX P w) 4 f fd pm_Book_word_for (spWordFor K A) := by
  refine F.okX sc_Book_word_for (fun vs H Q E h => ?_) (fun cdv A' outer sh H vs Q E hr h => ?_)
  · obtain ⟨_, _, _, _, _, rfl, _⟩ := h
    rfl
  · obtain ⟨b, n, s, v, d, rfl, hB, hd, hsm, hE, q⟩ := h
    refine ⟨_, pss_cons (ps_if (pt_not (pt_val (pe_own O_is_name (hr.mono (by decide)) pass0 (pa_cons (pv 1) pa_nil)))) (pss_one (ps_raise rfl (takes_of rfl rfl rfl rfl) (pmk_X X_BadName (hr.mono (by decide)) (pv 1) rfl))) (pss_nil))
      (pss_cons (ps_set (i := 2) sc_Book_word_for.nd rfl (Or.inl rfl) (pe_ownM O_Book_place_of (pv 0) T.Book.cl (hr.mono (by decide)) pass0 (pa_cons (pv 1) pa_nil)))
      (pss_one (ps_ret (pe_ifExp (pt_cmpR op_isN (pv 2) (pe_non) (nomark _)) (pe_tup (pa_cons (pe_str) (pa_cons (pv 1) pa_nil))) (pe_tup (pa_cons (pe_str) (pa_cons (pv 2) pa_nil))))))), ?_⟩
    refine ⟨v, rfl, v, d, rfl, hd, hsm, fun H1 e1 => ⟨_, rfl, ?_⟩⟩
    cases h1 : nameD d with
    | false => exact iteT ⟨_, rfl, mkX_fin fun e he => hE h1 _ e1 e he⟩
    | true =>
      cases d <;> first | cases h1 | skip
      rename_i h
      cases hd
      have hB1 := hB.ext e1
      obtain ⟨dx, ps, po, hb, hs, ho⟩ := id hB1
      have q' := q h rfl h1
      refine iteF ⟨_, rfl, b, dx, _, rfl, hb, rfl, _, rfl, b, n, s, _, _, rfl, hB1, .str h, ?_⟩
      refine ⟨_, rfl, rfl, _, rfl, ?_⟩
      rw [nn_oV]
      unfold wordV at q'
      show if decide ((if some h ∈ s.1 then some (at1 s.1 (some h)) else none) = none) = true then _ else _
      by_cases hm : some h ∈ s.1
      · rw [if_pos hm] at q' ⊢
        refine iteF ⟨_, rfl, by show 2 ≤ sizeLine; decide, fun t ht => q' t _ (e1.trans (Ext.upd ht)) ?_⟩
        rw [upd_same]
        show some (HO.tup [V.str "short", oV (if some h ∈ s.1 then some (at1 s.1 (some h)) else none)]) = _
        rw [if_pos hm]
        rfl
      · rw [if_neg hm] at q' ⊢
        exact iteT ⟨_, rfl, by show 2 ≤ sizeLine; decide, fun t ht => q' t _ (e1.trans (Ext.upd ht)) upd_same⟩
def spReadHead (K : PySem.W.Frag) (A : Ad) : Sp := fun vs H Q _ => ∃ b n s v d, vs = [.ref b, v] ∧ BkAt K A H b n s ∧ Good n s ∧ Dp K H v d ∧ SmD (sndD d) ∧ ∀ H', Ext H H' → Q (sV (readD d n s)) H'
theorem ok_readHead {f : Addr} {fd : FuncData} (F : Fun K "read_head" "read_head" s_read_head f fd) (T : Txt K mg A) (O_is_word : Own P w K mg base CX0 "is_word" 4 pm_is_word (spWord K))
    (O_Book_held : OwnM P w K mg base CX0 A.Book "held" 1 pm_Book_held (spHeld K A)) : FnOk P w K mg base CX0 5 f fd pm_read_head (spReadHead K A) := by
  refine F.ok sc_read_head (fun vs H Q E h => ?_) (fun cdv A' outer sh H vs Q E hr h => ?_)
  · obtain ⟨_, _, _, _, _, rfl, _⟩ := h
    rfl
  · obtain ⟨b, n, s, v, d, rfl, hB, g, hd, hsm, q⟩ := h
    refine ⟨_, pss_cons (ps_if (pt_not (pt_val (pe_own O_is_word (hr.mono (by decide)) pass0 (pa_cons (pv 1) pa_nil)))) (pss_one (ps_ret (pe_non))) (pss_nil))
      (pss_cons (ps_if (pt_cmpR op_eq (pe_ix ix_tup (pv 1) (pe_int) (fun _ _ => rfl)) (pe_str) (nomark _)) (pss_one (ps_ret (pe_ix ix_tup (pv 1) (pe_int) (fun _ _ => rfl)))) (pss_nil))
      (pss_one (ps_ret (pe_ifExp (pt_cmpR op_lt (pe_ix ix_tup (pv 1) (pe_int) (fun _ _ => rfl)) (pe_fld (pv 0) rfl) (nomark _)) (pe_ix ix_tup (pe_ownM0 O_Book_held (pv 0) T.Book.cl (hr.mono (by decide)) pass0) (pe_ix ix_tup (pv 1) (pe_int) (fun _ _ => rfl)) (fun _ _ => rfl)) (pe_non))))), ?_⟩
    refine ⟨v, rfl, v, d, rfl, hd, hsm, fun H1 e1 => ⟨_, rfl, ?_⟩⟩
    have q' := q H1 e1
    unfold readD at q'
    cases h1 : wordD d with
    | false =>
      rw [h1, if_neg (by decide)] at q'
      exact iteT q'
    | true =>
      rw [h1, if_pos rfl] at q'
      refine iteF ?_
      obtain ⟨dx, ps, po, hb, hs, ho⟩ := hB.ext e1
      rcases word_shape h1 with ⟨i, rfl, i0, i3⟩ | ⟨x, rfl, hx⟩
      · obtain ⟨p, y, d1, rfl, hp, hy, e⟩ := told_yes (wd := "short") (dp_ext e1 _ _ hd) rfl
        cases e
        cases hy
        dsimp only at q'
        rw [if_neg (by decide)] at q'
        refine ⟨_, rfl, p, _, 0, .str "short", rfl, rfl, hp, rfl, rfl, _, rfl, ?_⟩
        rw [dvs, decide_eq_false (by decide)]
        refine iteF ⟨_, rfl, p, _, 1, .int i, rfl, rfl, hp, rfl, _, rfl, b, A.Book, dx, _, _, rfl, hb, T.Book.cl, T.b_places, rfl, _, _, rfl, rfl, _, rfl, ?_⟩
        by_cases h2 : i < (n : Int)
        · rw [if_pos h2] at q'
          rw [decide_eq_true h2]
          refine iteT ⟨_, rfl, b, dx, _, rfl, hb, rfl, b, dx, ps, po, n, rfl, hb, _, rfl, p, _, 1, .int i, rfl, rfl, hp, rfl, ps, _, i, _, rfl, rfl, hs.sqT, ?_, q'⟩
          obtain ⟨j, rfl⟩ := Int.eq_ofNat_of_zero_le i0
          refine atI_nat ?_
          obtain ⟨_, ns, ok, _⟩ := g
          have hj : j < s.1.length := by
            rw [ok.len]
            omega
          rw [List.getElem?_map, show (j : Int).toNat = j by omega, List.getElem?_eq_getElem hj]
          rfl
        · rw [if_neg h2] at q'
          rw [decide_eq_false h2]
          exact iteF q'
      · obtain ⟨p, y, d1, rfl, hp, hy, e⟩ := told_yes (wd := "long") (dp_ext e1 _ _ hd) rfl
        cases e
        cases hy
        dsimp only at q'
        rw [if_pos rfl] at q'
        refine ⟨_, rfl, p, _, 0, .str "long", rfl, rfl, hp, rfl, rfl, _, rfl, ?_⟩
        rw [dvs, decide_eq_true rfl]
        exact iteT ⟨_, rfl, p, _, 1, .str x, rfl, rfl, hp, rfl, q'⟩
def spCheckBook (K : PySem.W.Frag) (A : Ad) : Sp := fun vs H Q E => ∃ v, vs = [v] ∧ ((∃ b n s, v = .ref b ∧ BkAt K A H b n s ∧ Q .non H) ∨ ∃ d, Dp K H v d ∧ ErrP A E H "book")
theorem ok_checkBook {f : Addr} {fd : FuncData} (F : Fun K "check_book" "check_book" s_check_book f fd) (T : Txt K mg A) (X_BadPart : XCls P w K mg base "BadPart" "part" A.BadPart) : FnOk P w K mg base (L2.CX P w) 3 f fd pm_check_book (spCheckBook K A) := by
  refine F.okX sc_check_book (fun vs H Q E h => ?_) (fun cdv A' outer sh H vs Q E hr h => ?_)
  · obtain ⟨_, rfl, _⟩ := h
    rfl
  · obtain ⟨v, rfl, h⟩ := h
    refine ⟨_, pss_one (ps_if (pt_not (pt_val (pe_callB call_isi (by rfl) T.n_isinstance (by decide +kernel) (pa_cons (pv 0) (pa_cons (pe_gcls T.Book.gC) pa_nil))))) (pss_one (ps_raise rfl (takes_of rfl rfl rfl rfl) (pmk_X X_BadPart (hr.mono (by decide)) (pe_str) rfl))) (pss_nil)), ?_⟩
    rcases h with ⟨b, n, s, rfl, ⟨dx, ps, po, hb, hs, ho⟩, q⟩ | ⟨d, hd, hE⟩
    · refine ⟨_, rfl, _, .ref A.Book, .ref A.Book, .ref A.Book, true, rfl, .own _, T.Book.tyOf hb, T.Book.me, _, rfl, ?_⟩
      exact iteF q
    · refine ⟨_, rfl, _, .ref A.Book, .type (tnD d), .ref A.Book, false, rfl, .own _, dp_ty hd, T.Book.kitB (sub_ty_ref kd_find) rfl, _, rfl, ?_⟩
      exact iteT (mkX_fin fun e he => hE _ Ext.rfl' e he)
end
end K02

set_option Elab.async false
set_option maxRecDepth 100000
set_option maxHeartbeats 4000000
namespace K02
open PySem PySem.Spec PyProof.Rows L2
def letterD : PyData → Bool
  | .tuple [.tuple hs, b] => decide (hs.length ≤ 4) && (hs.all nameD && betD b 0 60)
  | _ => false
def SmL (d : PyData) : Prop := ∀ hs b, d = .tuple [.tuple hs, b] → ∀ x ∈ hs, SmD x
def unitD (d : PyData) : Bool := toldD d "body" 1 || (toldD d "rest" 1 || wordD d)
def unitsD : PyData → Bool
  | .tuple ds => ds.all unitD
  | _ => false
section
variable {P : Program} {w : World} {K : PySem.W.Frag} {mg : Str → Option Value} {base : Heap} {A : Ad}
theorem tup_two {H : Hp} {v : V} {d : PyData} (h : Dp K H v d) (h2 : (isTupD d && decide ((lenD d : Int) = 2)) = true) : ∃ p x y d1 d2, v = .ref p ∧ d = .tuple [d1, d2] ∧ SqT K H p [x, y] ∧ Dp K H x d1 ∧ Dp K H y d2 := by
  rw [Bool.and_eq_true, decide_eq_true_eq] at h2
  obtain ⟨p, xs, ds, rfl, hx, ha, hd⟩ := dp_tup h h2.1
  subst hd
  have hl : (ds.length : Int) = 2 := h2.2
  rcases ds with _ | ⟨d1, _ | ⟨d2, _ | ⟨d3, ds⟩⟩⟩
  · cases hl
  · cases hl
  · cases ha with
    | cons a1 ha =>
      cases ha with
      | cons a2 ha =>
        cases ha
        exact ⟨p, _, _, d1, d2, rfl, rfl, hx, a1, a2⟩
  · exfalso
    rw [List.length_cons, List.length_cons, List.length_cons] at hl
    omega
def spLetter (K : PySem.W.Frag) : Sp := fun vs H Q _ => ∃ (v : V) (d : PyData), vs = [v] ∧ Dp K H v d ∧ SmL d ∧ ∀ H', Ext H H' → Q (.bl (letterD d)) H'
theorem ok_letter {f : Addr} {fd : FuncData} (F : Fun K "is_letter" "is_letter" s_is_letter f fd) (T : Txt K mg A) (O_is_tuple_of : Own P w K mg base CX0 "is_tuple_of" 1 pm_is_tuple_of (spTupleOf K)) (O_is_name : Own P w K mg base CX0 "is_name" 1 pm_is_name (spName K)) (O_is_between : Own P w K mg base CX0 "is_between" 2 pm_is_between (spBetween K)) : FnOk P w K mg base CX0 3 f fd pm_is_letter (spLetter K) := by
  refine F.ok sc_is_letter (fun vs H Q E h => ?_) (fun cdv A' outer sh H vs Q E hr h => ?_)
  · obtain ⟨_, _, rfl, _⟩ := h
    rfl
  · obtain ⟨v, d, rfl, hd, hsm, q⟩ := h
    refine ⟨_, pss_cons (ps_if (pt_not (pt_val (pe_own O_is_tuple_of (hr.mono (by decide)) pass0 (pa_cons (pv 0) (pa_cons (pe_int) pa_nil))))) (pss_one (ps_ret (pe_bl))) (pss_nil))
      (pss_cons (ps_asg (pv 0) (pg_tup rfl (pgs_cons (pg_name (i := 1) sc_is_letter.nd rfl (Or.inl rfl)) (pgs_cons (pg_name (i := 2) sc_is_letter.nd rfl (Or.inl rfl)) (pgs_nil)))))
      (pss_cons (ps_if (PW.pt (pw_or (pt_not (pt_val (pe_callB call_isi (by rfl) T.n_isinstance (by decide +kernel) (pa_cons (pv 1) (pa_cons (pe_bltn (v := .ty "tuple") (by rfl) T.n_tuple (by decide +kernel) rfl) pa_nil))))) (pw_or1 (pt_cmpR op_gt (pe_callB call_len_seq (by rfl) T.n_len (by decide +kernel) (pa_cons (pv 1) pa_nil)) (pe_gint T.g_MOST_HEADS) (nomark _))))) (pss_one (ps_ret (pe_bl))) (pss_nil))
      (pss_one (ps_ret (pe_and (pe_callB (cr_all rfl) (by rfl) T.n_all (by decide +kernel) (pa_cons (pe_lc (own := [("head", 3)]) (g := gName 3) (by rfl) sc_is_letter.nd (pi_tup (pv 1)) (blkOk_by (own := [("head", 3)]) (N := nm_is_letter) (sc := defScope s_is_letter) (by decide +kernel)) (fun _ _ _ _ _ => pg_name (i := 3) sc_is_letter.nd rfl (Or.inl rfl)) (fun s1 H1 C1 cl fp => pts_nil) (fun s1 H1 C1 cl fp => pe_own O_is_name (hr.mono (by decide)) pass0 (pa_cons (pv 3) pa_nil))) pa_nil)) (pe_one (pe_own O_is_between (hr.mono (by decide)) pass0 (pa_cons (pv 2) (pa_cons (pe_int) (pa_cons (pe_gint T.g_MOST_BODY) pa_nil)))))))))), ?_⟩
    refine ⟨_, rfl, v, d, 2, rfl, hd, _, rfl, ?_⟩
    cases h2 : (isTupD d && decide ((lenD d : Int) = 2)) with
    | false =>
      refine iteT ?_
      have : letterD d = false := by
        unfold letterD
        split
        · rw [show (isTupD (PyData.tuple [.tuple _, _]) && decide ((lenD (PyData.tuple [.tuple _, _]) : Int) = 2)) = true from rfl] at h2
          cases h2
        · rfl
      rw [this] at q
      exact q H Ext.rfl'
    | true =>
      obtain ⟨p, x, y, d1, d2, rfl, rfl, hp, hx, hy⟩ := tup_two hd h2
      refine iteF ⟨_, rfl, p, [x, y], rfl, hp, rfl, _, _, rfl, _, _, rfl, rfl, ?_⟩
      refine ⟨_, rfl, x, .ty "tuple", .type (tnD d1), .type "tuple", isTupD d1, rfl, .ty _, dp_ty hx, kd_tup, _, rfl, ?_⟩
      cases h1 : isTupD d1 with
      | false =>
        refine iteT ?_
        have : letterD (.tuple [d1, d2]) = false := by cases d1 <;> first | rfl | cases h1
        rw [this] at q
        exact q H Ext.rfl'
      | true =>
        obtain ⟨p1, xs, ds, rfl, hx1, ha, rfl⟩ := dp_tup hx h1
        have hl := dps_len ha
        refine iteF ⟨_, rfl, p1, _, rfl, .inr hx1, _, _, rfl, rfl, _, rfl, ?_⟩
        replace q : ∀ H', Ext H H' → Q (.bl (decide (ds.length ≤ 4) && (ds.all nameD && betD d2 0 60))) H' := q
        by_cases h4 : ds.length ≤ 4
        · rw [decide_eq_false (show ¬ (xs.length : Int) > 4 by omega)]
          rw [decide_eq_true h4] at q
          refine iteF ⟨_, rfl, p1, rfl, ⟨_, hx1⟩, fun C hC => ?_⟩
          refine lc_it (walk_tup (xs := xs)) (fun m H' => Ext H H' ∧ H' C = some (.lst (((ds.take m).map nameD).map V.bl))) ⟨Ext.upd hC, upd_same⟩ (fun m H' _ pv => hx1.ext pv.1) (fun m z H' H2 hi pv hyy => ?_) (fun H' pv => ?_)
          · obtain ⟨e4, hC4⟩ := pv
            obtain ⟨rfl, hz⟩ := hyy
            obtain ⟨dz, hdz, hdp⟩ := dps_get (dps_ext e4 _ _ ha) hz
            refine ⟨rfl, _, rfl, z, dz, rfl, hdp, hsm _ _ rfl dz (List.mem_of_getElem? hdz), fun H3 e5 => ?_⟩
            refine ⟨_, e5 _ _ hC4, small_sz ?_, ext_mut (e4.trans e5) hC, ?_⟩
            · rw [List.length_map, List.length_map, List.length_take]
              omega
            · rw [upd_same, take_snoc hdz, List.map_append, List.map_append]
              rfl
          · obtain ⟨e4, hC4⟩ := pv
            rw [List.take_of_length_le (by omega)] at hC4
            refine ⟨C, _, rfl, SqL.of hC4, ?_⟩
            rw [all_id]
            have z0 := q H' e4
            cases hal : ds.all nameD with
            | false =>
              rw [hal] at z0
              exact ⟨false, rfl, z0⟩
            | true =>
              rw [hal] at z0
              exact ⟨true, rfl, _, rfl, y, d2, 0, 60, rfl, dp_ext e4 _ _ hy, z0⟩
        · rw [decide_eq_true (show (xs.length : Int) > 4 by omega)]
          rw [decide_eq_false h4] at q
          exact iteT (q H Ext.rfl')
def spUnit (K : PySem.W.Frag) : Sp := fun vs H Q _ => ∃ (v : V) (d : PyData), vs = [v] ∧ Dp K H v d ∧ SmD (sndD d) ∧ ∀ H', Ext H H' → Q (.bl (unitD d)) H'
theorem ok_unit {f : Addr} {fd : FuncData} (F : Fun K "is_unit" "is_unit" s_is_unit f fd) (O_is_told_by : Own P w K mg base CX0 "is_told_by" 2 pm_is_told_by (spTold K)) (O_is_word : Own P w K mg base CX0 "is_word" 4 pm_is_word (spWord K)) : FnOk P w K mg base CX0 5 f fd pm_is_unit (spUnit K) := by
  refine F.ok sc_is_unit (fun vs H Q E h => ?_) (fun cdv A' outer sh H vs Q E hr h => ?_)
  · obtain ⟨_, _, rfl, _⟩ := h
    rfl
  · obtain ⟨v, d, rfl, hd, hsm, q⟩ := h
    refine ⟨_, pss_one (ps_ret (pe_or (pe_own O_is_told_by (hr.mono (by decide)) pass0 (pa_cons (pv 0) (pa_cons (pe_str) (pa_cons (pe_int) pa_nil)))) (pe_or (pe_own O_is_told_by (hr.mono (by decide)) pass0 (pa_cons (pv 0) (pa_cons (pe_str) (pa_cons (pe_int) pa_nil)))) (pe_one (pe_own O_is_word (hr.mono (by decide)) pass0 (pa_cons (pv 0) pa_nil)))))), ?_⟩
    unfold unitD at q
    refine ⟨_, rfl, v, d, "body", 1, rfl, hd, Nat.le_refl _, ?_⟩
    cases h1 : toldD d "body" 1 with
    | true =>
      rw [h1] at q
      exact ⟨true, rfl, q H Ext.rfl'⟩
    | false =>
      rw [h1] at q
      refine ⟨false, rfl, _, rfl, v, d, "rest", 1, rfl, hd, Nat.le_refl _, ?_⟩
      cases h2 : toldD d "rest" 1 with
      | true =>
        rw [h2] at q
        exact ⟨true, rfl, q H Ext.rfl'⟩
      | false =>
        rw [h2] at q
        exact ⟨false, rfl, _, rfl, v, d, rfl, hd, hsm, q⟩
def spUnits (K : PySem.W.Frag) : Sp := fun vs H Q _ => ∃ (v : V) (d : PyData), vs = [v] ∧ Dp K H v d ∧ (∀ ds, d = .tuple ds → ds.length ≤ 1000 ∧ ∀ x ∈ ds, SmD (sndD x)) ∧ ∀ H', Ext H H' → Q (.bl (unitsD d)) H'
theorem ok_units {f : Addr} {fd : FuncData} (F : Fun K "are_units" "are_units" s_are_units f fd) (T : Txt K mg A) (O_is_unit : Own P w K mg base CX0 "is_unit" 5 pm_is_unit (spUnit K)) : FnOk P w K mg base CX0 6 f fd pm_are_units (spUnits K) := by
  refine F.ok sc_are_units (fun vs H Q E h => ?_) (fun cdv A' outer sh H vs Q E hr h => ?_)
  · obtain ⟨_, _, rfl, _⟩ := h
    rfl
  · obtain ⟨v, d, rfl, hd, hsm, q⟩ := h
    refine ⟨_, pss_one (ps_ret (pe_and (pe_callB call_isi (by rfl) T.n_isinstance (by decide +kernel) (pa_cons (pv 0) (pa_cons (pe_bltn (v := .ty "tuple") (by rfl) T.n_tuple (by decide +kernel) rfl) pa_nil))) (pe_one (pe_callB (cr_all rfl) (by rfl) T.n_all (by decide +kernel) (pa_cons (pe_lc (own := [("unit", 1)]) (g := gName 1) (by rfl) sc_are_units.nd (pi_tup (pv 0)) (blkOk_by (own := [("unit", 1)]) (N := nm_are_units) (sc := defScope s_are_units) (by decide +kernel)) (fun _ _ _ _ _ => pg_name (i := 1) sc_are_units.nd rfl (Or.inl rfl)) (fun s1 H1 C1 cl fp => pts_nil) (fun s1 H1 C1 cl fp => pe_own O_is_unit (hr.mono (by decide)) pass0 (pa_cons (pv 1) pa_nil))) pa_nil))))), ?_⟩
    refine ⟨_, rfl, v, .ty "tuple", .type (tnD d), .type "tuple", isTupD d, rfl, .ty _, dp_ty hd, kd_tup, ?_⟩
    cases h1 : isTupD d with
    | false =>
      have : unitsD d = false := by cases d <;> first | rfl | cases h1
      rw [this] at q
      exact ⟨false, rfl, q H Ext.rfl'⟩
    | true =>
      obtain ⟨p1, xs, ds, rfl, hx1, ha, rfl⟩ := dp_tup hd h1
      have hl := dps_len ha
      obtain ⟨hl1, hs1⟩ := hsm ds rfl
      refine ⟨true, rfl, _, rfl, p1, rfl, ⟨_, hx1⟩, fun C hC => ?_⟩
      refine lc_it (walk_tup (xs := xs)) (fun m H' => Ext H H' ∧ H' C = some (.lst (((ds.take m).map unitD).map V.bl))) ⟨Ext.upd hC, upd_same⟩ (fun m H' _ pv => hx1.ext pv.1) (fun m z H' H2 hi pv hyy => ?_) (fun H' pv => ?_)
      · obtain ⟨e4, hC4⟩ := pv
        obtain ⟨rfl, hz⟩ := hyy
        obtain ⟨dz, hdz, hdp⟩ := dps_get (dps_ext e4 _ _ ha) hz
        refine ⟨rfl, _, rfl, z, dz, rfl, hdp, hs1 dz (List.mem_of_getElem? hdz), fun H3 e5 => ?_⟩
        refine ⟨_, e5 _ _ hC4, small_sz ?_, ext_mut (e4.trans e5) hC, ?_⟩
        · rw [List.length_map, List.length_map, List.length_take]
          omega
        · rw [upd_same, take_snoc hdz, List.map_append, List.map_append]
          rfl
      · obtain ⟨e4, hC4⟩ := pv
        rw [List.take_of_length_le (by omega)] at hC4
        refine ⟨C, _, rfl, SqL.of hC4, ?_⟩
        rw [all_id]
        exact q H' e4
end
end K02

set_option Elab.async false
set_option maxRecDepth 100000
set_option maxHeartbeats 4000000
namespace K02
open PySem PySem.Spec PyProof.Rows L2
def tP (t : List V) : PyData := .tuple (t.map pd)
/-- the units of the heads: each word, behind a long one k rests -/
def unV (s : St Str) (k : Nat) : List Str → List (List V)
  | [] => []
  | h :: hs => wordV s h :: ((if some h ∈ s.1 then [] else List.replicate k [.str "rest"]) ++ unV (step s h) k hs)
def unA (s : St Str) (k : Nat) (hs : List Str) (body : Nat) : List (List V) := unV s k hs ++ List.replicate body [.str "body"]
theorem unV_snoc (k : Nat) (h : Str) : ∀ (hs : List Str) (s : St Str), unV s k (hs ++ [h]) = unV s k hs ++ (wordV (hs.foldl step s) h :: (if some h ∈ (hs.foldl step s).1 then [] else List.replicate k [.str "rest"]))
  | [], s => by
    show wordV s h :: (_ ++ []) = [] ++ _
    rw [List.append_nil]
    rfl
  | x :: hs, s => by
    show wordV s x :: (_ ++ unV (step s x) k (hs ++ [h])) = (wordV s x :: (_ ++ unV (step s x) k hs)) ++ _
    rw [unV_snoc k h hs, List.cons_append, List.append_assoc]
    rfl
theorem unV_len (k : Nat) : ∀ (hs : List Str) (s : St Str), (unV s k hs).length ≤ hs.length * (k + 1)
  | [], _ => Nat.zero_le _
  | h :: hs, s => by
    unfold unV
    have := unV_len k hs (step s h)
    rw [List.length_cons, List.length_append, List.length_cons, Nat.succ_mul]
    split
    · show 0 + _ + 1 ≤ _
      omega
    · rw [List.length_replicate]
      omega
/-- a list's values are tuples of these -/
def Wd (K : PySem.W.Frag) (H : Hp) (ws : List V) (ts : List (List V)) : Prop := ws.length = ts.length ∧ ∀ (i : Nat) x t, ws[i]? = some x → ts[i]? = some t → ∃ q, x = .ref q ∧ SqT K H q t
section
variable {K : PySem.W.Frag} {H H' : Hp} {ws vs : List V} {ts us : List (List V)}
theorem sqT_mutL {D a : Addr} {ys xs : List V} (hD : H D = some (.lst ys)) (e : ∀ x o, x ≠ D → H x = some o → H' x = some o) (h : SqT K H a xs) : SqT K H' a xs := by
  rcases h with (h | ⟨o, h⟩) | h
  · exact .inl (.inl (e a _ (fun z => by rw [z, hD] at h; cases h) h))
  · exact .inl (.inr ⟨o, e a _ (fun z => by rw [z, hD] at h; cases h) h⟩)
  · exact .inr h
theorem Wd.ext (h : Wd K H ws ts) (e : Ext H H') : Wd K H' ws ts := ⟨h.1, fun i x t a b => by
  obtain ⟨q, r, z⟩ := h.2 i x t a b
  exact ⟨q, r, z.ext e⟩⟩
theorem Wd.mut {D : Addr} {ys zs : List V} (hD : H D = some (.lst ys)) (h : Wd K H ws ts) : Wd K (upd H D (.lst zs)) ws ts := ⟨h.1, fun i x t a b => by
  obtain ⟨q, r, z⟩ := h.2 i x t a b
  exact ⟨q, r, sqT_mutL hD (fun x o hx h => by rw [upd_ne hx]; exact h) z⟩⟩
theorem Wd.nil : Wd K H [] [] := ⟨rfl, fun i x t h => nomatch h⟩
theorem Wd.app (h : Wd K H ws ts) (g : Wd K H vs us) : Wd K H (ws ++ vs) (ts ++ us) := by
  refine ⟨by rw [List.length_append, List.length_append, h.1, g.1], fun i x t a b => ?_⟩
  by_cases hl : i < ws.length
  · rw [List.getElem?_append_left hl] at a
    rw [List.getElem?_append_left (by rw [← h.1]; exact hl)] at b
    exact h.2 i x t a b
  · rw [List.getElem?_append_right (by omega)] at a
    rw [List.getElem?_append_right (by rw [← h.1]; omega), ← h.1] at b
    exact g.2 _ x t a b
theorem Wd.rep {q : Addr} {t : List V} (n : Nat) (hq : SqT K H q t) : Wd K H (List.replicate n (.ref q)) (List.replicate n t) := by
  refine ⟨by rw [List.length_replicate, List.length_replicate], fun i x u a b => ?_⟩
  rw [List.getElem?_replicate] at a b
  split at a
  · rw [if_pos (by assumption)] at b
    cases a
    cases b
    exact ⟨q, rfl, hq⟩
  · cases a
theorem Wd.one {q : Addr} {t : List V} (hq : SqT K H q t) : Wd K H [.ref q] [t] := Wd.rep 1 hq
theorem Wd.dp (h : Wd K H ws ts) (hf : ∀ t ∈ ts, ∀ v ∈ t, Fl v) : DpAll K H ws (ts.map tP) := by
  induction ts generalizing ws with
  | nil =>
    have := h.1
    cases ws with
    | nil => exact .nil
    | cons _ _ => cases this
  | cons t ts ih =>
    cases ws with
    | nil => cases h.1
    | cons x ws =>
      obtain ⟨q, rfl, hq⟩ := h.2 0 x t rfl rfl
      exact .cons (.tup hq (dp_all (hf t List.mem_cons_self))) (ih ⟨Nat.succ.inj h.1, fun i x u a b => h.2 (i + 1) x u a b⟩ fun x hx => hf x (List.mem_cons_of_mem _ hx))
end
theorem flat_rep (v : V) (n : Nat) : (List.replicate n [v]).flatten = List.replicate n v := by
  induction n with
  | zero => rfl
  | succ n ih => rw [List.replicate_succ, List.flatten_cons, ih]; rfl
section
variable {P : Program} {w : World} {K : PySem.W.Frag} {mg : Str → Option Value} {base : Heap} {A : Ad}
theorem pe_gref {X : Cx} {x : Str} {a : Addr} {pos : Pos} (hm : X.mg x = some (.ref a)) (hg : Gl X x := by rfl) (hd : (x == ("__debug__" : Str)) = false := by decide) : PE X (.Name x pos) (tC (.ref a)) := pe_glob (v := .ref a) hg hm rfl hd
theorem bk_mut {H : Hp} {b D : Addr} {n : Nat} {s : St Str} {ys zs : List V} (hD : H D = some (.lst ys)) (h : BkAt K A H b n s) : BkAt K A (upd H D (.lst zs)) b n s := by
  obtain ⟨dx, ps, po, h1, ⟨o, h2, h2'⟩, h3⟩ := h
  have ne : ∀ {a : Addr} {u : HO}, H a = some u → u ≠ .lst ys → a ≠ D := fun ha hu e => by
    rw [e, hD] at ha
    cases ha
    exact hu rfl
  refine ⟨dx, ps, po, by rw [upd_ne (ne h1 (fun z => nomatch z))]; exact h1, ⟨o, by rw [upd_ne (ne h2 (fun z => nomatch z))]; exact h2, h2'⟩, ?_⟩
  rcases h3 with (h3 | ⟨o3, h3⟩) | h3
  · exact .inl (.inl (by rw [upd_ne (ne h3 (fun z => nomatch z))]; exact h3))
  · exact .inl (.inr ⟨o3, by rw [upd_ne (ne h3 (fun z => nomatch z))]; exact h3⟩)
  · exact .inr h3
def ErrL (A : Ad) (E : XK) (H : Hp) : Prop := ∀ H', Ext H H' → ∀ e, H' e = none → E (.ref A.BadLetter) (some e) (upd H' e (.xd [("spot", .non)]))
structure WrS (K : PySem.W.Frag) (A : Ad) (vs : List V) (H : Hp) (Q : VK) (E : XK) : Prop where
  h : ∃ (v u c : V) (d dc : PyData), vs = [v, u, c] ∧ Dp K H v d ∧ SmL d ∧ Dp K H c dc ∧ (letterD d = false → ErrL A E H) ∧ (letterD d = true →
    (∃ d', Dp K H u d' ∧ ErrP A E H "book") ∨ ∃ b n s, u = .ref b ∧ BkAt K A H b n s ∧ Good n s ∧ (betD dc 2 9 = false → ErrP A E H "long_cost") ∧
      ∀ (hs : List Str) (body cost : Nat), d = .tuple [.tuple (hs.map PyData.str), .int (body : Int)] → dc = .int (cost : Int) → 2 ≤ cost → cost ≤ 9 → hs.length ≤ 4 → body ≤ 60 → (∀ h, h ∈ hs → nameS h = true) → ∀ q U c' ws H', Ext H H' → H' q = some (.tup [.ref U, .ref c']) → H' U = some (.tup ws) → Wd K H' ws (unA s (cost - 1) hs body) → BkAt K A H' c' n (hs.foldl step s) → Q (.ref q) H')
def spWritten (K : PySem.W.Frag) (A : Ad) : Sp := fun vs H Q E => WrS K A vs H Q E
theorem names_all : ∀ {ds : List PyData}, ds.all nameD = true → ∃ us : List Str, ds = us.map PyData.str ∧ ∀ u, u ∈ us → nameS u = true
  | [], _ => ⟨[], rfl, fun u h => nomatch h⟩
  | d :: ds, h => by
    rw [List.all_cons, Bool.and_eq_true] at h
    obtain ⟨us, h1, h2⟩ := names_all h.2
    cases d <;> first | cases h.1 | skip
    rename_i x
    refine ⟨x :: us, by rw [h1]; rfl, fun u hu => ?_⟩
    rcases List.mem_cons.mp hu with rfl | hu
    · exact h.1
    · exact h2 u hu
theorem letter_shape {d : PyData} (h : letterD d = true) : ∃ (hs : List Str) (body : Nat), d = .tuple [.tuple (hs.map PyData.str), .int (body : Int)] ∧ hs.length ≤ 4 ∧ body ≤ 60 ∧ ∀ u, u ∈ hs → nameS u = true := by
  unfold letterD at h
  split at h
  · rename_i hs b
    rw [Bool.and_eq_true, Bool.and_eq_true, decide_eq_true_eq] at h
    obtain ⟨h1, h2, h3⟩ := h
    obtain ⟨us, rfl, hu⟩ := names_all h2
    obtain ⟨i, rfl, i0, i60⟩ := bet_yes h3
    rw [List.length_map] at h1
    exact ⟨us, i.toNat, by rw [Int.toNat_of_nonneg i0], h1, by omega, hu⟩
  · cases h
theorem ok_written {f : Addr} {fd : FuncData} (F : Fun K "written" "written" s_written f fd) (T : Txt K mg A) (O_is_letter : Own P w K mg base CX0 "is_letter" 3 pm_is_letter (spLetter K)) (O_check_book : Own P w K mg base (L2.CX P w) "check_book" 3 pm_check_book (spCheckBook K A)) (O_is_between : Own P w K mg base CX0 "is_between" 2 pm_is_between (spBetween K))
    (O_Book_word_for : OwnM P w K mg base (L2.CX P w) A.Book "word_for" 4 pm_Book_word_for (spWordFor K A)) (O_Book_used : OwnM P w K mg base (L2.CX P w) A.Book "used" 7 pm_Book_used (spUsed K A)) (X_BadLetter : XCls P w K mg base "BadLetter" "spot" A.BadLetter) (X_BadPart : XCls P w K mg base "BadPart" "part" A.BadPart) : FnOk P w K mg base (L2.CX P w) 8 f fd pm_written (spWritten K A) := by
  refine F.okX sc_written (fun vs H Q E h => ?_) (fun cdv A' outer sh H vs Q E hr h => ?_)
  · obtain ⟨_, _, _, _, _, rfl, _⟩ := h.h
    rfl
  · obtain ⟨v, u, c, d, dc, rfl, hd, hsm, hdc, hE, h⟩ := h.h
    refine ⟨_, pss_cons (ps_if (pt_not (pt_val (pe_own O_is_letter (hr.mono (by decide)) pass0 (pa_cons (pv 0) pa_nil)))) (pss_one (ps_raise rfl (takes_of rfl rfl rfl rfl) (pmk_X X_BadLetter (hr.mono (by decide)) (pe_non) rfl))) (pss_nil))
      (pss_cons (ps_expr (pe_ownS O_check_book (hr.mono (by decide)) (takes_of rfl rfl rfl rfl) (pa_cons (pv 1) pa_nil)))
      (pss_cons (ps_if (pt_not (pt_val (pe_own O_is_between (hr.mono (by decide)) pass0 (pa_cons (pv 2) (pa_cons (pe_gint T.g_LEAST_COST) (pa_cons (pe_gint T.g_MOST_COST) pa_nil)))))) (pss_one (ps_raise rfl (takes_of rfl rfl rfl rfl) (pmk_X X_BadPart (hr.mono (by decide)) (pe_str) rfl))) (pss_nil))
      (pss_cons (ps_asg (pv 0) (pg_tup rfl (pgs_cons (pg_name (i := 3) sc_written.nd rfl (Or.inl rfl)) (pgs_cons (pg_name (i := 4) sc_written.nd rfl (Or.inl rfl)) (pgs_nil)))))
      (pss_cons (ps_set (i := 5) sc_written.nd rfl (Or.inl rfl) (pe_lst (pa_nil)))
      (pss_cons (ps_for (passes_of rfl) rfl (pi_sq (pv 3)) (pg_name (i := 6) sc_written.nd rfl (Or.inl rfl)) (pss_cons (ps_set (i := 7) sc_written.nd rfl (Or.inl rfl) (pe_ownM O_Book_word_for (pv 1) T.Book.cl (hr.mono (by decide)) passL (pa_cons (pv 6) pa_nil)))
      (pss_cons (ps_expr (pe_bm PySem.F.plainAttrs_list PySem.F.slot_list_append PySem.F.type_list_append mt_append (pv 5) (pa_cons (pv 7) pa_nil)))
      (pss_cons (ps_if (pt_cmpR op_eq (pe_ix ix_tup (pv 7) (pe_int) (fun _ _ => rfl)) (pe_str) (nomark _)) (pss_one (ps_expr (pe_bm PySem.F.plainAttrs_list PySem.F.slot_list_extend PySem.F.type_list_extend mt_extend (pv 5) (pa_cons (pe_op op_rep (pe_lst (pa_cons (pe_gref T.g_REST) pa_nil)) (pe_op op_sub (pv 2) (pe_int))) pa_nil)))) (pss_nil))
      (pss_one (ps_set (i := 1) sc_written.nd rfl (Or.inl rfl) (pe_ownM O_Book_used (pv 1) T.Book.cl (hr.mono (by decide)) passL (pa_cons (pv 6) pa_nil))))))))
      (pss_cons (ps_expr (pe_bm PySem.F.plainAttrs_list PySem.F.slot_list_extend PySem.F.type_list_extend mt_extend (pv 5) (pa_cons (pe_op op_rep (pe_lst (pa_cons (pe_gref T.g_BODY) pa_nil)) (pv 4)) pa_nil)))
      (pss_one (ps_ret (pe_tup (pa_cons (pe_callTy call_tuple_of (by rfl) T.n_tuple (by decide +kernel) (pa_cons (pv 5) pa_nil)) (pa_cons (pv 1) pa_nil))))))))))), ?_⟩
    refine ⟨_, rfl, v, d, rfl, hd, hsm, fun H1 e1 => ⟨_, rfl, ?_⟩⟩
    cases hl : letterD d with
    | false => exact iteT (mkX_fin fun e he => hE hl _ e1 e he)
    | true =>
      refine iteF ?_
      rcases h hl with ⟨d', hd', hE2⟩ | ⟨b, n, s, rfl, hB, g, hE2, q⟩
      · exact ⟨_, rfl, u, rfl, .inr ⟨d', dp_ext e1 _ _ hd', fun H2 e2 => hE2 H2 (e1.trans e2)⟩⟩
      · refine ⟨_, rfl, _, rfl, .inl ⟨b, n, s, rfl, hB.ext e1, ?_⟩⟩
        refine ⟨_, rfl, c, dc, 2, 9, rfl, dp_ext e1 _ _ hdc, _, rfl, ?_⟩
        cases hb : betD dc 2 9 with
        | false => exact iteT (mkX_fin fun e he => hE2 hb _ e1 e he)
        | true =>
          obtain ⟨ci, rfl, c2, c9⟩ := bet_yes hb
          obtain ⟨cost, rfl⟩ : ∃ k : Nat, ci = (k : Int) := ⟨ci.toNat, by omega⟩
          obtain ⟨hs, body, rfl, h4, hb60, hhs⟩ := letter_shape hl
          have q' := q hs body cost rfl rfl (by omega) (by omega) h4 hb60 hhs
          clear q hE hE2 h hsm
          obtain ⟨p, x, y, d1, d2, rfl, he, hp, hx, hy⟩ := tup_two (dp_ext e1 _ _ hd) rfl
          cases he
          cases hy
          obtain ⟨p1, xs, ds, rfl, hx1, ha, he⟩ := dp_tup hx rfl
          obtain rfl : hs.map PyData.str = ds := by injection he
          obtain rfl := dps_str ha
          obtain rfl : c = .int (cost : Int) := by cases hdc; rfl
          refine iteF ⟨_, rfl, p, _, rfl, hp, rfl, _, _, rfl, _, _, rfl, rfl, by decide, fun U hU => ?_⟩
          have hU0 := ext_none e1 hU
          refine ⟨_, rfl, p1, rfl, ?_⟩
          refine for_sqM (H0 := H1) (xs := hs.map V.str) (.inr hx1) (fun i σ' H' => Ext H1 H' ∧ ∃ b' o6 o7 ws, σ' = [some (.ref p), some (.ref b'), some (.int (cost : Int)), some (.ref p1), some (.int (body : Int)), some (.ref U), o6, o7] ∧ H' U = some (.lst ws) ∧ Wd K H' ws (unV s (cost - 1) (hs.take i)) ∧ BkAt K A H' b' n ((hs.take i).foldl step s) ∧ Good n ((hs.take i).foldl step s))
            ⟨Ext.upd hU, b, _, _, [], rfl, upd_same, Wd.nil, (hB.ext e1).ext (Ext.upd hU), g⟩ (fun i σ' H' pv => pv.1) (fun i x σ' H' hi pv => ?_) (fun σ' H' pv => ?_)
          · obtain ⟨e, b', o6, o7, ws, rfl, hUl, hw, hc, gc⟩ := pv
            rw [List.getElem?_map] at hi
            obtain ⟨h, hh, rfl⟩ := Option.map_eq_some_iff.mp hi
            have hn := hhs h (List.mem_of_getElem? hh)
            have hsm1 : SmD (.str h) := by
              have := name_len hn
              show h.length ≤ 1000
              omega
            have hnm : nameD (.str h) = true := hn
            have hil := (List.getElem?_eq_some_iff.mp hh).1
            have hwl : ws.length ≤ 40 := by
              rw [hw.1]
              refine Nat.le_trans (unV_len _ _ _) ?_
              rw [List.length_take]
              have : min i hs.length ≤ 4 := by omega
              have h9 : cost - 1 + 1 ≤ 10 := by omega
              exact Nat.mul_le_mul this h9
            rw [take_snoc hh, unV_snoc, List.foldl_append]
            generalize (hs.take i).foldl step s = R at hc gc ⊢
            generalize unV s (cost - 1) (hs.take i) = ts at hw ⊢
            obtain ⟨dx, ps, po, hb1, _, _⟩ := id hc
            refine ⟨_, rfl, b', dx, _, rfl, hb1, rfl, _, rfl, b', n, R, _, .str h, rfl, hc, .str h, hsm1, fun z => (by rw [hnm] at z; cases z), fun h' eh _ t H3 e3 ht => ?_⟩
            cases eh
            have hU3 := e3 _ _ hUl
            refine ⟨_, rfl, .inl ⟨rfl, _, SqL.of hU3⟩, _, rfl, U, ws, _, rfl, rfl, hU3, small_sz (by omega), ?_⟩
            have hc3 := bk_mut (zs := ws ++ [.ref t]) hU3 (hc.ext e3)
            have ht3 : (upd H3 U (.lst (ws ++ [.ref t]))) t = some (.tup (wordV R h)) := by
              rw [upd_ne (fun z => by rw [z, hU3] at ht; cases ht)]
              exact ht
            have hw3 : Wd K (upd H3 U (.lst (ws ++ [.ref t]))) (ws ++ [.ref t]) (ts ++ [wordV R h]) := ((hw.ext e3).mut hU3).app (Wd.one (SqT.of ht3))
            have e4 : Ext H1 (upd H3 U (.lst (ws ++ [.ref t]))) := ext_mut (e.trans e3) hU
            have hl4 : (upd H3 U (.lst (ws ++ [.ref t]))) U = some (.lst (ws ++ [.ref t])) := upd_same
            generalize upd H3 U (.lst (ws ++ [.ref t])) = H4 at hc3 hw3 e4 hl4 ht3 ⊢
            have fin : ∀ (ws' : List V) (H5 : Hp), Ext H1 H5 → H5 U = some (.lst ws') → Wd K H5 ws' (ts ++ (wordV R h :: (if some h ∈ R.1 then [] else List.replicate (cost - 1) [.str "rest"]))) → BkAt K A H5 b' n R → ∀ b2 H6, Ext H5 H6 → BkAt K A H6 b2 n (step R h) → Ext H1 H6 ∧ ∃ b3 o6 o7 ws3, ([some (.ref p), some (.ref b2), some (.int (cost : Int)), some (.ref p1), some (.int (body : Int)), some (.ref U), some (.str h), some (.ref t)] : List (Option V)) = [some (.ref p), some (.ref b3), some (.int (cost : Int)), some (.ref p1), some (.int (body : Int)), some (.ref U), o6, o7] ∧ H6 U = some (.lst ws3) ∧ Wd K H6 ws3 (ts ++ (wordV R h :: (if some h ∈ R.1 then [] else List.replicate (cost - 1) [.str "rest"]))) ∧ BkAt K A H6 b3 n (List.foldl step R [h]) ∧ Good n (List.foldl step R [h]) := fun ws' H5 e5 h5 w5 c5 b2 H6 e6 hb2 =>
              ⟨e5.trans e6, b2, _, _, ws', rfl, e6 _ _ h5, w5.ext e6, hb2, good_step gc hn⟩
            have hhd : (wordV R h)[0]? = some (.str (if some h ∈ R.1 then "short" else "long")) := by
              unfold wordV
              split <;> rfl
            refine ⟨_, rfl, t, _, 0, .str (if some h ∈ R.1 then "short" else "long"), rfl, rfl, SqT.of ht3, atI_nat (j := 0) hhd, rfl, _, rfl, ?_⟩
            rw [dvs]
            by_cases hm : some h ∈ R.1
            · rw [show decide ((if some h ∈ R.1 then ("short" : Str) else "long") = "long") = false from by rw [if_pos hm]; decide]
              obtain ⟨dx, ps, po, hb1, _, _⟩ := id hc3
              refine iteF ⟨_, rfl, b', dx, _, rfl, hb1, rfl, _, rfl, b', n, R, _, .str h, rfl, hc3, gc, .str h, hsm1, fun z => (by rw [hnm] at z; cases z), fun h' eh _ b2 H5 e5 hb' => ?_⟩
              cases eh
              exact fin _ _ e4 hl4 (by rw [if_pos hm]; exact hw3) hc3 _ _ e5 hb'
            · rw [show decide ((if some h ∈ R.1 then ("short" : Str) else "long") = "long") = true from decide_eq_true (if_neg hm)]
              refine iteT ⟨_, rfl, .inl ⟨rfl, _, SqL.of hl4⟩, by show 1 ≤ sizeLine; decide, fun r1 hr1 => ⟨_, rfl, _, _, rfl, rfl, r1, _, _, rfl, rfl, upd_same, by omega, by omega, ?_, fun r2 hr2 => ?_⟩⟩
              · show 1 * _ ≤ sizeLine
                exact Nat.le_of_lt (small_sz (by omega))
              rw [flat_rep, show ((cost : Int) - 1).toNat = cost - 1 by omega]
              have e5 := (Ext.upd (o := .lst [V.ref A.REST]) hr1).trans (Ext.upd (o := .lst (List.replicate (cost - 1) (V.ref A.REST))) hr2)
              have h5 : upd (upd H4 r1 (.lst [V.ref A.REST])) r2 (.lst (List.replicate (cost - 1) (V.ref A.REST))) r2 = some (.lst (List.replicate (cost - 1) (V.ref A.REST))) := upd_same
              generalize upd (upd H4 r1 (.lst [V.ref A.REST])) r2 (.lst (List.replicate (cost - 1) (V.ref A.REST))) = H5 at e5 h5 ⊢
              have hU5 := e5 _ _ hl4
              refine ⟨U, r2, _, _, rfl, rfl, hU5, h5, ?_, ?_⟩
              · rw [List.length_append, List.length_replicate, List.length_singleton]
                exact Nat.le_of_lt (small_sz (by omega))
              have hc6 := bk_mut (zs := (ws ++ [.ref t]) ++ List.replicate (cost - 1) (V.ref A.REST)) hU5 (hc3.ext e5)
              have hw6 := ((hw3.ext e5).mut (zs := (ws ++ [.ref t]) ++ List.replicate (cost - 1) (V.ref A.REST)) hU5).app (Wd.rep (cost - 1) (T.t_REST _))
              have e6 : Ext H1 (upd H5 U (.lst ((ws ++ [.ref t]) ++ List.replicate (cost - 1) (V.ref A.REST)))) := ext_mut (e4.trans e5) hU
              have h6 : upd H5 U (.lst ((ws ++ [.ref t]) ++ List.replicate (cost - 1) (V.ref A.REST))) U = some (.lst ((ws ++ [.ref t]) ++ List.replicate (cost - 1) (V.ref A.REST))) := upd_same
              generalize upd H5 U (.lst ((ws ++ [.ref t]) ++ List.replicate (cost - 1) (V.ref A.REST))) = H6 at hc6 hw6 e6 h6 ⊢
              rw [List.append_assoc ts] at hw6
              obtain ⟨dx, ps, po, hb1, _, _⟩ := id hc6
              refine ⟨_, rfl, b', dx, _, rfl, hb1, rfl, _, rfl, b', n, R, _, .str h, rfl, hc6, gc, .str h, hsm1, fun z => (by rw [hnm] at z; cases z), fun h' eh _ b2 H7 e7 hb' => ?_⟩
              cases eh
              exact fin _ _ e6 h6 (by rw [if_neg hm]; exact hw6) hc6 _ _ e7 hb'
          · obtain ⟨e, b', o6, o7, ws, rfl, hUl, hw, hc, gc⟩ := pv
            rw [List.length_map, List.take_length] at hw hc
            have hwl : ws.length ≤ 40 := by
              rw [hw.1]
              refine Nat.le_trans (unV_len _ _ _) ?_
              have h9 : cost - 1 + 1 ≤ 10 := by omega
              exact Nat.mul_le_mul h4 h9
            refine ⟨_, rfl, .inl ⟨rfl, _, SqL.of hUl⟩, by show 1 ≤ sizeLine; decide, fun r1 hr1 => ⟨_, rfl, r1, _, _, rfl, rfl, upd_same, by omega, by omega, ?_, fun r2 hr2 => ?_⟩⟩
            · show 1 * _ ≤ sizeLine
              exact Nat.le_of_lt (small_sz (by omega))
            rw [flat_rep, Int.toNat_natCast]
            have e5 := (Ext.upd (o := .lst [V.ref A.BODY]) hr1).trans (Ext.upd (o := .lst (List.replicate body (V.ref A.BODY))) hr2)
            have h5 : upd (upd H' r1 (.lst [V.ref A.BODY])) r2 (.lst (List.replicate body (V.ref A.BODY))) r2 = some (.lst (List.replicate body (V.ref A.BODY))) := upd_same
            generalize upd (upd H' r1 (.lst [V.ref A.BODY])) r2 (.lst (List.replicate body (V.ref A.BODY))) = H5 at e5 h5 ⊢
            have hU5 := e5 _ _ hUl
            refine ⟨U, r2, _, _, rfl, rfl, hU5, h5, ?_, ?_⟩
            · rw [List.length_replicate]
              exact Nat.le_of_lt (small_sz (by omega))
            have hc6 := bk_mut (zs := ws ++ List.replicate body (V.ref A.BODY)) hU5 (hc.ext e5)
            have hw6 := ((hw.ext e5).mut (zs := ws ++ List.replicate body (V.ref A.BODY)) hU5).app (Wd.rep body (T.t_BODY _))
            have e6 : Ext H1 (upd H5 U (.lst (ws ++ List.replicate body (V.ref A.BODY)))) := ext_mut (e.trans e5) hU
            have h6 : upd H5 U (.lst (ws ++ List.replicate body (V.ref A.BODY))) U = some (.lst (ws ++ List.replicate body (V.ref A.BODY))) := upd_same
            generalize upd H5 U (.lst (ws ++ List.replicate body (V.ref A.BODY))) = H6 at hc6 hw6 e6 h6 ⊢
            refine ⟨_, rfl, U, _, rfl, .inl ⟨SqL.of h6, fun t1 ht1 => ⟨_, rfl, by show 2 ≤ sizeLine; decide, fun q hq => ?_⟩⟩⟩
            have e7 := (Ext.upd (o := .tup (ws ++ List.replicate body (V.ref A.BODY))) ht1).trans (Ext.upd (o := .tup [V.ref t1, .ref b']) hq)
            exact q' q t1 b' _ _ ((e1.trans e6).trans e7) upd_same (Ext.upd hq _ _ upd_same) (hw6.ext e7) (hc6.ext e7)
end
end K02

set_option Elab.async false
set_option maxRecDepth 100000
set_option maxHeartbeats 4000000
namespace K02
open PySem PySem.Spec PyProof.Rows L2
def stepO (s : St Str) : Option Str → St Str
  | none => s
  | some h => step s h
def readU (n : Nat) : St Str → List PyData → List (Option Str) × St Str
  | s, [] => ([], s)
  | s, d :: ds => if wordD d = true then (readD d n s :: (readU n (stepO s (readD d n s)) ds).1, (readU n (stepO s (readD d n s)) ds).2) else readU n s ds
theorem readU_cons {n : Nat} {s : St Str} {d : PyData} {ds : List PyData} : readU n s (d :: ds) = if wordD d = true then (readD d n s :: (readU n (stepO s (readD d n s)) ds).1, (readU n (stepO s (readD d n s)) ds).2) else readU n s ds := rfl
def bodyD : PyData := .tuple [.str "body"]
def bodiesN (ds : List PyData) : Nat := (ds.filter fun d => PyData.eqv d bodyD).length
section
variable {P : Program} {w : World} {K : PySem.W.Frag} {mg : Str → Option Value} {base : Heap} {A : Ad}
def ErrU (A : Ad) (E : XK) (H : Hp) (v : V) : Prop := ∀ H', Ext H H' → ∀ e, H' e = none → E (.ref A.BadUnits) (some e) (upd H' e (.xd [("value", v)]))
structure RdS (K : PySem.W.Frag) (A : Ad) (vs : List V) (H : Hp) (Q : VK) (E : XK) : Prop where
  h : ∃ (u v : V) (du : PyData), vs = [u, v] ∧ Dp K H u du ∧ (∀ ds, du = .tuple ds → ds.length ≤ 1000 ∧ ∀ x ∈ ds, SmD (sndD x) ∧ SeqAt.shaped x = true) ∧ (unitsD du = false → ErrU A E H u) ∧ (unitsD du = true →
    (∃ d', Dp K H v d' ∧ ErrP A E H "book") ∨ ∃ b n s, v = .ref b ∧ BkAt K A H b n s ∧ Good n s ∧ ∀ ds, du = .tuple ds → ∀ q t hp c' H', Ext H H' → H' q = some (.tup [.ref t, .ref c']) → H' t = some (.tup [.ref hp, .int (bodiesN ds : Nat)]) → H' hp = some (.tup ((readU n s ds).1.map sV)) → BkAt K A H' c' n (readU n s ds).2 → Q (.ref q) H')
def spReadL (K : PySem.W.Frag) (A : Ad) : Sp := fun vs H Q E => RdS K A vs H Q E
theorem ok_readL {f : Addr} {fd : FuncData} (F : Fun K "read_letter" "read_letter" s_read_letter f fd) (T : Txt K mg A) (O_are_units : Own P w K mg base CX0 "are_units" 6 pm_are_units (spUnits K)) (O_check_book : Own P w K mg base (L2.CX P w) "check_book" 3 pm_check_book (spCheckBook K A)) (O_is_word : Own P w K mg base CX0 "is_word" 4 pm_is_word (spWord K)) (O_read_head : Own P w K mg base CX0 "read_head" 5 pm_read_head (spReadHead K A))
    (O_Book_used : OwnM P w K mg base (L2.CX P w) A.Book "used" 7 pm_Book_used (spUsed K A)) (X_BadUnits : XCls P w K mg base "BadUnits" "value" A.BadUnits) : FnOk P w K mg base (L2.CX P w) 8 f fd pm_read_letter (spReadL K A) := by
  refine F.okX sc_read_letter (fun vs H Q E h => ?_) (fun cdv A' outer sh H vs Q E hr h => ?_)
  · obtain ⟨_, _, _, rfl, _⟩ := h.h
    rfl
  · obtain ⟨u, v, du, rfl, hu, hsm, hE, h⟩ := h.h
    refine ⟨_, pss_cons (ps_if (pt_not (pt_val (pe_own O_are_units (hr.mono (by decide)) pass0 (pa_cons (pv 0) pa_nil)))) (pss_one (ps_raise rfl (takes_of rfl rfl rfl rfl) (pmk_X X_BadUnits (hr.mono (by decide)) (pv 0) rfl))) (pss_nil))
      (pss_cons (ps_expr (pe_ownS O_check_book (hr.mono (by decide)) (takes_of rfl rfl rfl rfl) (pa_cons (pv 1) pa_nil)))
      (pss_cons (ps_set (i := 2) sc_read_letter.nd rfl (Or.inl rfl) (pe_lst (pa_nil)))
      (pss_cons (ps_for (passes_of rfl) rfl (pi_tup (pv 0)) (pg_name (i := 3) sc_read_letter.nd rfl (Or.inl rfl)) (pss_one (ps_if (pt_val (pe_own O_is_word (hr.mono (by decide)) pass0 (pa_cons (pv 3) pa_nil))) (pss_cons (ps_set (i := 4) sc_read_letter.nd rfl (Or.inl rfl) (pe_own O_read_head (hr.mono (by decide)) pass0 (pa_cons (pv 1) (pa_cons (pv 3) pa_nil))))
      (pss_cons (ps_expr (pe_bm PySem.F.plainAttrs_list PySem.F.slot_list_append PySem.F.type_list_append mt_append (pv 2) (pa_cons (pv 4) pa_nil)))
      (pss_one (ps_if (pt_cmpR op_notN (pv 4) (pe_non) (nomark _)) (pss_one (ps_set (i := 1) sc_read_letter.nd rfl (Or.inl rfl) (pe_ownM O_Book_used (pv 1) T.Book.cl (hr.mono (by decide)) passL (pa_cons (pv 4) pa_nil)))) (pss_nil))))) (pss_nil))))
      (pss_one (ps_ret (pe_tup (pa_cons (pe_tup (pa_cons (pe_callTy call_tuple_of (by rfl) T.n_tuple (by decide +kernel) (pa_cons (pv 2) pa_nil)) (pa_cons (pe_callB call_len_seq (by rfl) T.n_len (by decide +kernel) (pa_cons (pe_lc (own := [("unit", 3)]) (g := gName 3) (by rfl) sc_read_letter.nd (pi_tup (pv 0)) (blkOk_by (own := [("unit", 3)]) (N := nm_read_letter) (sc := defScope s_read_letter) (by decide +kernel)) (fun _ _ _ _ _ => pg_name (i := 3) sc_read_letter.nd rfl (Or.inl rfl)) (fun s1 H1 C1 cl fp => pts_one (pt_cmpR (op_eqDK (K := K) rfl hr.units) (pv 3) (pe_gref T.g_BODY) (nomark _))) (fun s1 H1 C1 cl fp => pv 3)) pa_nil)) pa_nil))) (pa_cons (pv 1) pa_nil)))))))), ?_⟩
    refine ⟨_, rfl, u, du, rfl, hu, fun ds hds => ⟨(hsm ds hds).1, fun x hx => ((hsm ds hds).2 x hx).1⟩, fun H1 e1 => ⟨_, rfl, ?_⟩⟩
    cases hl : unitsD du with
    | false => exact iteT ⟨_, rfl, mkX_fin fun e he => hE hl _ e1 e he⟩
    | true =>
      refine iteF ?_
      rcases h hl with ⟨d', hd', hE2⟩ | ⟨b, n, s, rfl, hB, g, q⟩
      · exact ⟨_, rfl, v, rfl, .inr ⟨d', dp_ext e1 _ _ hd', fun H2 e2 => hE2 H2 (e1.trans e2)⟩⟩
      · refine ⟨_, rfl, _, rfl, .inl ⟨b, n, s, rfl, hB.ext e1, ?_⟩⟩
        have h1 : isTupD du = true := by cases du <;> first | rfl | cases hl
        obtain ⟨p, xs, ds, rfl, hx, ha, rfl⟩ := dp_tup (dp_ext e1 _ _ hu) h1
        have q' := q ds rfl
        obtain ⟨hl1, hs1⟩ := hsm ds rfl
        clear q hE h hsm
        have hxl := dps_len ha
        refine ⟨by decide, fun D hD => ?_⟩
        refine ⟨_, rfl, p, rfl, ⟨_, hx.ext (Ext.upd hD)⟩, ?_⟩
        refine for_it (walk_tup (xs := xs)) (fun i σ' H' => Ext H1 H' ∧ ∃ b' s' o3 o4 os, σ' = [some (.ref p), some (.ref b'), some (.ref D), o3, o4] ∧ H' D = some (.lst (os.map sV)) ∧ os.length ≤ i ∧ readU n s ds = (os ++ (readU n s' (ds.drop i)).1, (readU n s' (ds.drop i)).2) ∧ BkAt K A H' b' n s' ∧ Good n s')
          ⟨Ext.upd hD, b, s, _, _, [], rfl, upd_same, Nat.le_refl _, rfl, (hB.ext e1).ext (Ext.upd hD), g⟩ (fun i σ' H' _ pv => hx.ext pv.1) (fun i x σ' H' H2 hi pv hyy => ?_) (fun σ' H' pv => ?_)
        · obtain ⟨e, b', s', o3, o4, os, rfl, hDl, hol, hrd, hc, gc⟩ := pv
          obtain ⟨rfl, hz⟩ := hyy
          obtain ⟨d0, hdi, hdv⟩ := dps_get (dps_ext e _ _ ha) hz
          have hlt := List.getElem?_eq_some_iff.mp hdi
          have hdrop : ds.drop i = d0 :: ds.drop (i + 1) := by rw [List.drop_eq_getElem_cons hlt.1, hlt.2]
          have hsd := (hs1 d0 (List.mem_of_getElem? hdi)).1
          refine ⟨_, rfl, x, d0, rfl, hdv, hsd, fun H3 e3 => ⟨_, rfl, ?_⟩⟩
          rw [hdrop] at hrd
          rw [readU_cons] at hrd
          cases hw : wordD d0 with
          | false =>
            rw [hw, if_neg (by decide)] at hrd
            exact iteF ⟨e.trans e3, b', s', _, _, os, rfl, e3 _ _ hDl, by omega, hrd, hc.ext e3, gc⟩
          | true =>
            rw [hw, if_pos rfl] at hrd
            refine iteT ⟨_, rfl, x, rfl, b', n, s', x, d0, rfl, hc.ext e3, gc, dp_ext e3 _ _ hdv, hsd, fun H4 e4 => ?_⟩
            have hD4 := e4 _ _ (e3 _ _ hDl)
            refine ⟨_, rfl, .inl ⟨rfl, _, SqL.of hD4⟩, _, rfl, D, _, sV (readD d0 n s'), rfl, rfl, hD4, small_sz (by rw [List.length_map]; omega), ?_⟩
            have hc5 := bk_mut (zs := os.map sV ++ [sV (readD d0 n s')]) hD4 ((hc.ext e3).ext e4)
            have e5 : Ext H1 (upd H4 D (.lst (os.map sV ++ [sV (readD d0 n s')]))) := ext_mut ((e.trans e3).trans e4) hD
            have hD5 : (upd H4 D (.lst (os.map sV ++ [sV (readD d0 n s')]))) D = some (.lst ((os ++ [readD d0 n s']).map sV)) := by
              rw [upd_same, List.map_append]
              rfl
            generalize upd H4 D (.lst (os.map sV ++ [sV (readD d0 n s')])) = H5 at hc5 e5 hD5 ⊢
            have hrd' : readU n s ds = ((os ++ [readD d0 n s']) ++ (readU n (stepO s' (readD d0 n s')) (ds.drop (i + 1))).1, (readU n (stepO s' (readD d0 n s')) (ds.drop (i + 1))).2) := by
              rw [hrd, List.append_assoc]
              rfl
            have hol' : (os ++ [readD d0 n s']).length ≤ i + 1 := by
              rw [List.length_append]
              show os.length + 1 ≤ i + 1
              omega
            refine ⟨_, rfl, rfl, _, rfl, ?_⟩
            rw [nn_sV]
            cases hr0 : readD d0 n s' with
            | none =>
              rw [hr0] at hrd' hol' hD5
              exact iteF ⟨e5, b', s', _, _, _, rfl, hD5, hol', hrd', hc5, gc⟩
            | some h =>
              rw [hr0] at hrd' hol' hD5
              have hn := read_name gc hr0
              have hsm1 : SmD (.str h) := by
                have := name_len hn
                show h.length ≤ 1000
                omega
              have hnm : nameD (.str h) = true := hn
              obtain ⟨dx, ps, po, hb, _, _⟩ := id hc5
              refine iteT ⟨_, rfl, b', dx, _, rfl, hb, rfl, _, rfl, b', n, s', _, .str h, rfl, hc5, gc, .str h, hsm1, fun z => (by rw [hnm] at z; cases z), fun h' eh _ b2 H6 e6 hb' => ?_⟩
              cases eh
              exact ⟨e5.trans e6, b2, _, _, _, _, rfl, e6 _ _ hD5, hol', hrd', hb', good_step gc hn⟩
        · obtain ⟨e, b', s', o3, o4, os, rfl, hDl, hol, hrd, hc, gc⟩ := pv
          rw [List.drop_of_length_le (by omega)] at hrd
          replace hrd : readU n s ds = (os ++ [], s') := hrd
          rw [List.append_nil] at hrd
          rw [hrd] at q'
          refine ⟨_, rfl, D, _, rfl, .inl ⟨SqL.of hDl, fun hp hhp => ?_⟩⟩
          have e2 := Ext.upd (o := .tup (os.map sV)) hhp
          have hh2 : upd H' hp (.tup (os.map sV)) hp = some (.tup (os.map sV)) := upd_same
          have hc2 := hc.ext e2
          have e12 := e.trans e2
          generalize upd H' hp (.tup (os.map sV)) = H2 at e2 hh2 hc2 e12 ⊢
          refine ⟨_, rfl, p, rfl, ⟨_, hx.ext e12⟩, fun C hC => ?_⟩
          refine lc_it (walk_tup (xs := xs)) (fun m H5 => Ext H2 H5 ∧ ∃ acc, H5 C = some (.lst acc) ∧ acc.length = ((ds.take m).filter fun d => PyData.eqv d bodyD).length) ⟨Ext.upd hC, [], upd_same, rfl⟩ (fun m H5 _ pv => (hx.ext e12).ext pv.1) (fun m z H5 H6 hi pv hyy => ?_) (fun H5 pv => ?_)
          · obtain ⟨e4, acc, hC4, hal⟩ := pv
            obtain ⟨rfl, hz⟩ := hyy
            obtain ⟨dz, hdz, hdp⟩ := dps_get (dps_ext (e12.trans e4) _ _ ha) hz
            have hst : ((ds.take (m + 1)).filter fun d => PyData.eqv d bodyD).length = ((ds.take m).filter fun d => PyData.eqv d bodyD).length + (if PyData.eqv dz bodyD = true then 1 else 0) := by
              rw [take_snoc hdz, List.filter_append, List.length_append, List.filter_cons, List.filter_nil]
              split <;> rfl
            refine ⟨rfl, _, rfl, dz, bodyD, hdp, .tup (T.t_BODY _) (.cons (.str _) .nil), (hs1 dz (List.mem_of_getElem? hdz)).2, by decide +kernel, _, rfl, ?_⟩
            have hle : ((ds.take m).filter fun d => PyData.eqv d bodyD).length ≤ 1000 := Nat.le_trans (List.length_filter_le _ _) (Nat.le_trans (by rw [List.length_take]; exact Nat.min_le_right _ _) hl1)
            cases hq : PyData.eqv dz bodyD with
            | false =>
              rw [hq] at hst
              exact iteF ⟨e4, acc, hC4, by rw [hst, hal]; rfl⟩
            | true =>
              rw [hq] at hst
              refine iteT ⟨_, rfl, _, hC4, small_sz (by omega), ext_mut e4 hC, _, upd_same, ?_⟩
              rw [List.length_append, hst, hal]
              rfl
          · obtain ⟨e4, acc, hC4, hal⟩ := pv
            rw [List.take_of_length_le (by omega)] at hal
            refine ⟨C, _, rfl, .inl (SqL.of hC4), by show 2 ≤ sizeLine; decide, fun t ht => ⟨_, rfl, by show 2 ≤ sizeLine; decide, fun q hq => ?_⟩⟩
            have e5 := Ext.upd (o := .tup [V.ref hp, .int (acc.length : Int)]) ht
            have e6 := Ext.upd (o := .tup [V.ref t, .ref b']) hq
            refine q' q t hp b' _ (((((e1.trans e12).trans e4).trans e5).trans e6)) upd_same ?_ (e6 _ _ (e5 _ _ (e4 _ _ hh2))) (((hc2.ext e4).ext e5).ext e6)
            rw [e6 _ _ upd_same, hal]
            rfl
end
end K02

set_option Elab.async false
set_option maxRecDepth 100000
set_option maxHeartbeats 4000000
namespace K02
open PySem PySem.Spec PyProof.Rows L2
/-! ### what is drawn by -/
def BagAt (H : Hp) (B c : Addr) (N : Nat) : Prop := ∃ (ns : List Int) (i z n m : Int), H B = some (.lst [.ref c, .int i, .int z, .int n, .int m]) ∧ H c = some (.lst (ns.map V.int)) ∧ ns.length ≤ 63 ∧ 0 ≤ i ∧ 0 ≤ n ∧ n ≤ N ∧ 0 ≤ m ∧ m < 2147483647
def ExtM (st : Addr) (H H' : Hp) : Prop := ∀ x o, x ≠ st → H x = some o → H' x = some o
theorem ExtM.rfl' {st : Addr} {H : Hp} : ExtM st H H := fun _ _ _ h => h
theorem ExtM.trans {st : Addr} {H H1 H2 : Hp} (a : ExtM st H H1) (c : ExtM st H1 H2) : ExtM st H H2 := fun x o h e => c x o h (a x o h e)
theorem Ext.m {st : Addr} {H H' : Hp} (h : Ext H H') : ExtM st H H' := fun x o _ e => h x o e
theorem BagAt.ext {B c : Addr} {H H' : Hp} {N : Nat} (h : BagAt H B c N) (e : Ext H H') : BagAt H' B c N := by
  obtain ⟨ns, i, z, n, m, h1, h2, h⟩ := h
  exact ⟨ns, i, z, n, m, e _ _ h1, e _ _ h2, h⟩
theorem BagAt.le {B c : Addr} {H : Hp} {N M : Nat} (h : BagAt H B c N) (e : N ≤ M) : BagAt H B c M := by
  obtain ⟨ns, i, z, n, m, h1, h2, h3, h4, h5, h6, h7⟩ := h
  exact ⟨ns, i, z, n, m, h1, h2, h3, h4, h5, by omega, h7⟩
theorem BagAt.new {B c l : Addr} {H : Hp} {N : Nat} (h : BagAt H B c N) (hl : H l = none) : l ≠ B ∧ l ≠ c := by
  obtain ⟨ns, i, z, n, m, hs, hc, _⟩ := h
  exact ⟨(ne_of_none hs hl).symm, (ne_of_none hc hl).symm⟩
theorem BagAt.upd {B c l : Addr} {H : Hp} {N : Nat} {o : HO} (h : BagAt H B c N) (h1 : l ≠ B) (h2 : l ≠ c) : BagAt (L2.upd H l o) B c N := by
  obtain ⟨ns, i, z, n, m, a1, a2, h⟩ := h
  exact ⟨ns, i, z, n, m, by rw [upd_ne h1.symm]; exact a1, by rw [upd_ne h2.symm]; exact a2, h⟩
theorem ExtM.none {st t : Addr} {H H' : Hp} (e : ExtM st H H') (h1 : t ≠ st) (h : H' t = none) : H t = none := by
  cases z : H t with
  | none => rfl
  | some o =>
    rw [e t o h1 z] at h
    cases h
theorem mut1 {st : Addr} (o : HO) (H1 : Hp) : ExtM st H1 (upd H1 st o) := fun x u hx h => by
  rw [upd_ne hx]
  exact h
theorem get_int {ns : List Int} {k : Nat} (h : k < ns.length) : (ns.map V.int)[k]? = some (.int (ns.getD k 0)) := by
  rw [List.getElem?_map, List.getElem?_eq_getElem h, List.getD_eq_getElem?_getD, List.getElem?_eq_getElem h]
  rfl
section
variable {P : Program} {w : World} {K : PySem.W.Frag} {mg : Str → Option Value} {base : Heap} {A : Ad}
def spBag (K : PySem.W.Frag) : Sp := fun vs H Q _ => ∃ (sc : Addr) (ns : List Int), vs = [.ref sc] ∧ SqL K H sc (ns.map V.int) ∧ ns.length ≤ 63 ∧ ∀ B c H', Ext H H' → H B = none → BagAt H' B c 0 → Q (.ref B) H'
theorem ok_bag {f : Addr} {fd : FuncData} (F : Fun K "_law_bag" "_law_bag" s__law_bag f fd) (T : Txt K mg A) : FnOk P w K mg base CX0 1 f fd pm__law_bag (spBag K) := by
  refine F.ok sc__law_bag (fun vs H Q E h => ?_) (fun cdv A' outer sh H vs Q E hr h => ?_)
  · obtain ⟨_, _, rfl, _⟩ := h
    rfl
  · obtain ⟨sc, ns, rfl, hs, hl, q⟩ := h
    refine ⟨_, pss_one (ps_ret (pe_lst (pa_cons (pe_lc (own := [("_law_cell", 1)]) (g := gName 1) (by rfl) sc__law_bag.nd (pi_list (pv 0)) (blkOk_by (own := [("_law_cell", 1)]) (N := nm__law_bag) (sc := defScope s__law_bag) (by decide +kernel)) (fun _ _ _ _ _ => pg_name (i := 1) sc__law_bag.nd rfl (Or.inl rfl)) (fun s1 H1 C1 cl fp => pts_nil) (fun s1 H1 C1 cl fp => pe_callTy call_int1 (by rfl) T.n_int (by decide +kernel) (pa_cons (pv 1) pa_nil))) (pa_cons (pe_int) (pa_cons (pe_int) (pa_cons (pe_int) (pa_cons (pe_int) pa_nil))))))), ?_⟩
    refine ⟨_, rfl, sc, rfl, ⟨_, hs⟩, fun C hC => ?_⟩
    refine lc_list (xs := ns.map V.int) (fun m H' => Ext H H' ∧ H' C = some (.lst ((ns.take m).map V.int))) ⟨Ext.upd hC, upd_same⟩ (fun m H' _ pv => hs.ext pv.1) (fun m x H' hx pv => ?_) (fun H' pv => ?_)
    · obtain ⟨e, hC2⟩ := pv
      rw [List.getElem?_map] at hx
      obtain ⟨i, hi, rfl⟩ := Option.map_eq_some_iff.mp hx
      refine ⟨rfl, _, rfl, .inl ⟨_, rfl, _, hC2, small_sz ?_, ext_mut e hC, ?_⟩⟩
      · rw [List.length_map, List.length_take]
        omega
      · rw [upd_same, take_snoc hi, List.map_append]
        rfl
    · obtain ⟨e, hC2⟩ := pv
      rw [List.length_map, List.take_length] at hC2
      refine ⟨by show 5 ≤ sizeLine; decide, fun B hB => ?_⟩
      have e2 := Ext.upd (o := .lst [V.ref C, .int 0, .int 0, .int 0, .int 7]) hB
      exact q B C _ (e.trans e2) (ext_none e hB) ⟨ns, 0, 0, 0, 7, upd_same, e2 _ _ hC2, hl, by decide, by decide, by decide, by decide, by decide⟩
def spDraw : Sp := fun vs H Q _ => ∃ (B c : Addr) (N : Nat) (L : Int), vs = [.ref B, .int L] ∧ BagAt H B c N ∧ N ≤ 1000000 ∧ 1 ≤ L ∧ L ≤ 100000 ∧ ∀ n H', 0 ≤ n → n < L → BagAt H' B c (N + 1) → ExtM B H H' → Q (.int n) H'
theorem ok_draw {f : Addr} {fd : FuncData} (F : Fun K "_law_draw" "_law_draw" s__law_draw f fd) (T : Txt K mg A) : FnOk P w K mg base CX0 1 f fd pm__law_draw spDraw := by
  refine F.ok sc__law_draw (fun vs H Q E h => ?_) (fun cdv A' outer sh H vs Q E hr h => ?_)
  · obtain ⟨_, _, _, _, rfl, _⟩ := h
    rfl
  · obtain ⟨B, c, N, L, rfl, ⟨ns, i, z, n, m, hB, hc, hl, i0, n0, nN, m0, m1⟩, hN, hL, hL2, k⟩ := h
    have hcB : c ≠ B := ne_of hc hB (by intro z; injection z with z; cases ns <;> simp at z)
    refine ⟨_, pss_cons (ps_asg (pe_op op_add (pe_ix ix_list (pv 0) (pe_int) (fun _ _ => rfl)) (pe_int)) (pg_sub (pv 0) (pe_int) set_list))
      (Evl.pss_cut (ps_if (PW.pt (pw_and (pt_cmpR op_eq (pe_ix ix_list (pv 0) (pe_int) (fun _ _ => rfl)) (pe_int) (nomark _)) (pw_and1 (pt_cmpR op_lt (pe_ix ix_list (pv 0) (pe_int) (fun _ _ => rfl)) (pe_callB call_len_seq (by rfl) T.n_len (by decide +kernel) (pa_cons (pe_ix ix_list (pv 0) (pe_int) (fun _ _ => rfl)) pa_nil)) (nomark _))))) (pss_cons (ps_set (i := 2) sc__law_draw.nd rfl (Or.inl rfl) (pe_ix ix_list (pe_ix ix_list (pv 0) (pe_int) (fun _ _ => rfl)) (pe_ix ix_list (pv 0) (pe_int) (fun _ _ => rfl)) (fun _ _ => rfl)))
      (pss_cons (ps_asg (pe_op op_add (pe_ix ix_list (pv 0) (pe_int) (fun _ _ => rfl)) (pe_int)) (pg_sub (pv 0) (pe_int) set_list))
      (pss_one (ps_if (pt_cmpR op_ge (pv 2) (pe_op op_pow (pe_int) (pe_int)) (nomark _)) (pss_one (ps_asg (pv 2) (pg_sub (pv 0) (pe_int) set_list))) (pss_one (ps_asg (pe_op op_mod (pe_callTy call_int1 (by rfl) T.n_int (by decide +kernel) (pa_cons (pe_op op_add (pe_op op_mul (pe_ix ix_list (pv 0) (pe_int) (fun _ _ => rfl)) (pe_int)) (pv 2)) pa_nil)) (pe_int)) (pg_sub (pv 0) (pe_int) set_list))))))) (pss_nil))
      (pss_cons (ps_if (pt_cmpR op_gt (pe_ix ix_list (pv 0) (pe_int) (fun _ _ => rfl)) (pe_int) (nomark _)) (pss_cons (ps_set (i := 3) sc__law_draw.nd rfl (Or.inl rfl) (pe_op op_modN (pe_callTy call_int1 (by rfl) T.n_int (by decide +kernel) (pa_cons (pe_ix ix_list (pv 0) (pe_int) (fun _ _ => rfl)) pa_nil)) (pv 1)))
      (pss_cons (ps_asg (pe_op op_fdivN (pe_ix ix_list (pv 0) (pe_int) (fun _ _ => rfl)) (pv 1)) (pg_sub (pv 0) (pe_int) set_list))
      (pss_one (ps_ret (pv 3))))) (pss_nil))
      (pss_cons (ps_asg (pe_op op_mod (pe_callTy call_int1 (by rfl) T.n_int (by decide +kernel) (pa_cons (pe_op op_add (pe_op op_add (pe_op op_mul (pe_ix ix_list (pv 0) (pe_int) (fun _ _ => rfl)) (pe_int)) (pe_op op_mul (pe_ix ix_list (pv 0) (pe_int) (fun _ _ => rfl)) (pe_int))) (pe_int)) pa_nil)) (pe_int)) (pg_sub (pv 0) (pe_int) set_list))
      (pss_one (ps_ret (pe_op op_modN (pe_callTy call_int1 (by rfl) T.n_int (by decide +kernel) (pa_cons (pe_op op_fdiv (pe_op op_mod (pe_callTy call_int1 (by rfl) T.n_int (by decide +kernel) (pa_cons (pe_op op_add (pe_op op_mul (pe_ix ix_list (pv 0) (pe_int) (fun _ _ => rfl)) (pe_int)) (pe_op op_mul (pe_ix ix_list (pv 0) (pe_int) (fun _ _ => rfl)) (pe_int))) pa_nil)) (pe_int)) (pe_int)) pa_nil)) (pv 1))))))), ?_⟩
    refine ⟨_, rfl, B, _, 3, .int n, rfl, rfl, SqL.of hB, rfl, _, _, rfl, rfl, _, rfl, B, _, 3, 3, rfl, rfl, hB, rfl, ?_⟩
    have h1 : upd H B (.lst ([V.ref c, .int i, .int z, .int n, .int m].set 3 (.int (n + 1)))) B = some (.lst [.ref c, .int i, .int z, .int (n + 1), .int m]) := by rw [upd_same]; rfl
    have x1 : ExtM B H (upd H B (.lst ([V.ref c, .int i, .int z, .int n, .int m].set 3 (.int (n + 1))))) := mut1 _ _
    generalize upd H B (.lst ([V.ref c, .int i, .int z, .int n, .int m].set 3 (.int (n + 1)))) = H1 at h1 x1 ⊢
    have hc1 := x1 _ _ hcB hc
    refine ⟨fun σ' H' => ∃ (i z m : Int) (o2 : Option V), σ' = [some (.ref B), some (.int L), o2, none] ∧ H' B = some (.lst [.ref c, .int i, .int z, .int (n + 1), .int m]) ∧ 0 ≤ i ∧ 0 ≤ m ∧ m < 2147483647 ∧ ExtM B H H', ?_, ?_⟩
    · refine ⟨_, rfl, B, _, 2, .int z, rfl, rfl, SqL.of h1, rfl, rfl, _, rfl, ?_⟩
      rw [dvi]
      by_cases hz : z = 0
      · rw [decide_eq_true hz]
        refine iteT ⟨_, rfl, B, _, 1, .int i, rfl, rfl, SqL.of h1, rfl, _, rfl, B, _, 0, .ref c, rfl, rfl, SqL.of h1, rfl, c, _, rfl, .inl (SqL.of hc1), _, _, rfl, rfl, _, rfl, ?_⟩
        rw [List.length_map]
        by_cases hi : i < (ns.length : Int)
        · rw [decide_eq_true hi]
          obtain ⟨j, rfl⟩ : ∃ j : Nat, i = (j : Int) := ⟨i.toNat, by omega⟩
          refine iteT ⟨_, rfl, B, _, 0, .ref c, rfl, rfl, SqL.of h1, rfl, _, rfl, B, _, 1, .int (j : Int), rfl, rfl, SqL.of h1, rfl, c, _, (j : Int), .int (ns.getD j 0), rfl, rfl, SqL.of hc1, atI_nat (get_int (by omega)), ?_⟩
          refine ⟨_, rfl, B, _, 1, .int (j : Int), rfl, rfl, SqL.of h1, rfl, _, _, rfl, rfl, _, rfl, B, _, 1, 1, rfl, rfl, h1, rfl, ?_⟩
          have h2 : upd H1 B (.lst ([V.ref c, .int (j : Int), .int z, .int (n + 1), .int m].set 1 (.int ((j : Int) + 1)))) B = some (.lst [.ref c, .int ((j : Int) + 1), .int z, .int (n + 1), .int m]) := by rw [upd_same]; rfl
          have x2 : ExtM B H1 (upd H1 B (.lst ([V.ref c, .int (j : Int), .int z, .int (n + 1), .int m].set 1 (.int ((j : Int) + 1))))) := mut1 _ _
          generalize upd H1 B (.lst ([V.ref c, .int (j : Int), .int z, .int (n + 1), .int m].set 1 (.int ((j : Int) + 1)))) = H2 at h2 x2 ⊢
          refine ⟨_, rfl, _, _, rfl, rfl, ⟨by decide, by decide, by decide⟩, _, _, rfl, rfl, _, rfl, ?_⟩
          by_cases hbig : ns.getD j 0 ≥ 10 ^ (18 : Int).toNat
          · rw [decide_eq_true hbig]
            refine iteT ⟨_, rfl, _, rfl, B, _, 2, 2, rfl, rfl, h2, rfl, ?_⟩
            exact ⟨(j : Int) + 1, ns.getD j 0, m, _, rfl, by rw [upd_same]; rfl, by omega, m0, m1, (x1.trans x2).trans (mut1 _ _)⟩
          · rw [decide_eq_false hbig]
            refine iteF ⟨_, rfl, B, _, 4, .int m, rfl, rfl, SqL.of h2, rfl, _, _, rfl, rfl, .inr ⟨by decide, by decide⟩, _, rfl, _, _, rfl, rfl, .inl ⟨_, rfl, _, _, rfl, rfl, (show (0 : Int) < 2147483629 by decide), _, rfl, B, _, 4, 4, rfl, rfl, h2, rfl, ?_⟩⟩
            exact ⟨(j : Int) + 1, z, _, _, rfl, by rw [upd_same]; rfl, by omega, Int.emod_nonneg _ (by decide), Int.lt_trans (Int.emod_lt_of_pos _ (by decide)) (by decide), (x1.trans x2).trans (mut1 _ _)⟩
        · rw [decide_eq_false hi]
          exact iteF ⟨i, z, m, _, rfl, h1, i0, m0, m1, x1⟩
      · rw [decide_eq_false hz]
        exact iteF ⟨i, z, m, _, rfl, h1, i0, m0, m1, x1⟩
    · rintro σ' H2 ⟨i, z, m, o2, rfl, h2, i0, m0, m1, x2⟩
      have hc2 := x2 _ _ hcB hc
      clear h1 x1 hc1
      refine ⟨_, rfl, B, _, 2, .int z, rfl, rfl, SqL.of h2, rfl, _, _, rfl, rfl, _, rfl, ?_⟩
      by_cases hz : z > 0
      · rw [decide_eq_true hz]
        refine iteT ⟨_, rfl, B, _, 2, .int z, rfl, rfl, SqL.of h2, rfl, .inl ⟨_, rfl, _, rfl, _, _, rfl, rfl, (by show L ≠ 0; omega), ?_⟩⟩
        refine ⟨_, rfl, B, _, 2, .int z, rfl, rfl, SqL.of h2, rfl, _, rfl, _, _, rfl, rfl, ⟨by omega, by omega⟩, _, rfl, B, _, 2, 2, rfl, rfl, h2, rfl, ?_⟩
        have xm := mut1 (st := B) (.lst ([V.ref c, .int i, .int z, .int (n + 1), .int m].set 2 (.int (Int.fdiv z L)))) H2
        exact ⟨_, rfl, k _ _ (Int.fmod_nonneg_of_pos _ (by omega)) (Int.fmod_lt_of_pos _ (by omega)) ⟨ns, i, _, n + 1, m, upd_same, xm _ _ hcB hc2, hl, i0, by omega, by omega, m0, m1⟩ (x2.trans xm)⟩
      · rw [decide_eq_false hz]
        refine iteF ⟨_, rfl, B, _, 4, .int m, rfl, rfl, SqL.of h2, rfl, _, _, rfl, rfl, .inr ⟨by decide, by decide⟩, _, rfl, B, _, 3, .int (n + 1), rfl, rfl, SqL.of h2, rfl, _, _, rfl, rfl, .inr ⟨by decide, by decide⟩, _, _, rfl, rfl, _, _, rfl, rfl, .inl ⟨_, rfl, _, _, rfl, rfl, (show (0 : Int) < 2147483647 by decide), _, rfl, B, _, 4, 4, rfl, rfl, h2, rfl, ?_⟩⟩
        have c0 : 0 ≤ (m * 48271 + (n + 1) * 69621 + 11) % 2147483647 := Int.emod_nonneg _ (by decide)
        have c1 : (m * 48271 + (n + 1) * 69621 + 11) % 2147483647 < 2147483647 := Int.emod_lt_of_pos _ (by decide)
        have h3 : upd H2 B (.lst ([V.ref c, .int i, .int z, .int (n + 1), .int m].set 4 (.int ((m * 48271 + (n + 1) * 69621 + 11) % 2147483647)))) B = some (.lst [.ref c, .int i, .int z, .int (n + 1), .int ((m * 48271 + (n + 1) * 69621 + 11) % 2147483647)]) := by rw [upd_same]; rfl
        have x3 : ExtM B H2 (upd H2 B (.lst ([V.ref c, .int i, .int z, .int (n + 1), .int m].set 4 (.int ((m * 48271 + (n + 1) * 69621 + 11) % 2147483647))))) := mut1 _ _
        generalize upd H2 B (.lst ([V.ref c, .int i, .int z, .int (n + 1), .int m].set 4 (.int ((m * 48271 + (n + 1) * 69621 + 11) % 2147483647)))) = H3 at h3 x3 ⊢
        generalize (m * 48271 + (n + 1) * 69621 + 11) % 2147483647 = m2 at c0 c1 h3
        refine ⟨_, rfl, B, _, 4, .int m2, rfl, rfl, SqL.of h3, rfl, _, _, rfl, rfl, .inr ⟨by decide, by decide⟩, _, rfl, B, _, 3, .int (n + 1), rfl, rfl, SqL.of h3, rfl, _, _, rfl, rfl, .inr ⟨by decide, by decide⟩, _, _, rfl, rfl, .inl ⟨_, rfl, _, _, rfl, rfl, (show (0 : Int) < 2147483629 by decide), ?_⟩⟩
        refine ⟨_, _, rfl, rfl, ⟨by decide, by decide⟩, .inl ⟨_, rfl, _, rfl, _, _, rfl, rfl, (by show L ≠ 0; omega), ?_⟩⟩
        exact k _ _ (Int.fmod_nonneg_of_pos _ (by omega)) (Int.fmod_lt_of_pos _ (by omega)) ⟨ns, i, z, n + 1, m2, h3, x3 _ _ hcB hc2, hl, i0, by omega, by omega, c0, c1⟩ (x2.trans x3)
end
end K02

set_option Elab.async false
set_option linter.all false
set_option maxRecDepth 100000
set_option maxHeartbeats 1000000
/-! list.remove of a flat item -/
namespace L2
open PySem PySem.Spec PyProof.Rows
section
variable {X : Cx}
def rRemF : V → List V → Hp → VK → Prop := fun x xs H Q => ∃ (l : Addr) (ys : List V) (y : V) (j : Nat) (z : V), x = .ref l ∧ xs = [y] ∧ H l = some (.lst ys) ∧ flatV y = true ∧ ys.all flatV = true ∧ ys[j]? = some z ∧ eqV z y = true ∧
  (∀ (m : Nat) (z' : V), m < j → ys[m]? = some z' → eqV z' y = false) ∧ Q .non (upd H l (.lst (ys.eraseIdx j)))
theorem mt_removeF : MtM X "list.remove" rRemF := by
  intro pins s σ H x xs v us Q I rx rxs h
  obtain ⟨l, ys, y, j, z, rfl, rfl, hH, fy, fys, hz, hzj, hno, q⟩ := h
  cases rx
  obtain ⟨u, rfl, ry⟩ := rxs.one
  obtain ⟨zz, its, n, rv, hl, e⟩ := I.lstM hH
  obtain ⟨w, hw, ru⟩ := rv.get hz
  obtain ⟨hjl, hje⟩ := List.getElem?_eq_some_iff.mp hw
  have hvl := rv.length
  have hj : j < its.toArray.size := by simpa using hjl
  refine call_meets PySem.F.slot_list_remove ⟨_, e, rfl⟩ PySem.F.entry_list_remove (PySem.F.args_list_remove_2 _ _)
    (SeqAt.list_removeAt l its.toArray n none #[] u (eqU y) j hj ?_ ?_ (by rw [List.size_toArray]; omega)) ⟨e, fun u' hu' => mem_eqAt ry fy rv fys u' (by simpa using hu'), ?_⟩
  · have e1 : its.toArray[j] = w := by simpa using hje
    rw [e1, eqU_of ru (flat_at fys hz)]
    exact hzj
  · intro m hm hmj
    have hml : m < its.length := by simpa using hm
    have hmy : m < ys.length := by omega
    have hy' : ys[m]? = some ys[m] := List.getElem?_eq_getElem hmy
    obtain ⟨u2, hu2, ru2⟩ := rv.get hy'
    obtain ⟨_, hme⟩ := List.getElem?_eq_some_iff.mp hu2
    have e1 : its.toArray[m] = u2 := by simpa using hme
    rw [e1, eqU_of ru2 (flat_at fys hy')]
    exact hno m _ hmj hy'
  · refine ⟨.non, _, I.lset (its' := its.eraseIdx j) (t' := s.toks) hH e ?_ (rv.eraseIdx j) ?_, rfl, q⟩
    · show its.toArray.eraseIdxIfInBounds j = (its.eraseIdx j).toArray
      rw [List.eraseIdxIfInBounds_toArray]
    · have := len_erase ys j
      omega
end
end L2

set_option Elab.async false
set_option maxRecDepth 100000
set_option maxHeartbeats 4000000
namespace K02
open PySem PySem.Spec PyProof.Rows L2
theorem erase_at : ∀ {O : List Nat} {p : Nat}, p ∈ O → O.eraseIdx (at1 O p) = O.erase p
  | [], _, h => nomatch h
  | o :: O, p, h => by
    unfold at1
    by_cases e : o = p
    · rw [if_pos e, e, List.erase_cons_head]
      rfl
    · rw [if_neg e, List.erase_cons_tail (by simpa using e), List.eraseIdx_cons_succ, erase_at ((List.mem_cons.mp h).resolve_left fun z => e z.symm)]
theorem map_erI {α β : Type} {f : α → β} : ∀ (l : List α) (j : Nat), (l.eraseIdx j).map f = (l.map f).eraseIdx j
  | [], _ => rfl
  | _ :: _, 0 => rfl
  | x :: l, j + 1 => congrArg (f x :: ·) (map_erI l j)
/-- what the law keeps: the names in their order -/
def nmO (S : List (Option Str)) (i : Nat) : Str := ((S[i]?).join).getD ""
def ordN (s : St Str) : List Str := s.2.map (nmO s.1)
section
variable {n : Nat} {s : St Str} {ns : List Str}
theorem nm_at (o : Ok n s ns) {i : Nat} (h : i < ns.length) : nmO s.1 i = ns[i] := by
  unfold nmO
  rw [o.get h]
  rfl
theorem nm_inj (o : Ok n s ns) {i j : Nat} (hi : i < ns.length) (hj : j < ns.length) (h : nmO s.1 i = nmO s.1 j) : i = j := by
  rw [nm_at o hi, nm_at o hj] at h
  exact (List.getElem_inj o.nd).mp h
theorem nm_set {S : List (Option Str)} {p i : Nat} {h : Str} (hp : p < S.length) : nmO (S.set p (some h)) i = if i = p then h else nmO S i := by
  unfold nmO
  rw [List.getElem?_set]
  by_cases e : p = i
  · subst e
    rw [if_pos rfl, if_pos hp, if_pos rfl]
    rfl
  · rw [if_neg e, if_neg (fun z => e z.symm)]
theorem ordN_len : (ordN s).length = s.2.length := by
  unfold ordN
  rw [List.length_map]
theorem ord_same (o : Ok n s ns) {h : Str} (hm : some h ∈ s.1) : (step s h).1 = s.1 ∧ h ∈ ordN s ∧ ordN (step s h) = (ordN s).eraseIdx (at1 (ordN s) h) ++ [h] := by
  obtain ⟨i, hi, he⟩ := List.getElem_of_mem (o.mem.mp hm)
  have ha : at1 s.1 (some h) = i := by rw [← he]; exact o.ats hi
  have hio : i ∈ s.2 := o.omem.mpr hi
  have hil : i < s.1.length := by rw [o.len]; have := o.le; omega
  have hset : s.1.set i (some h) = s.1 := by
    refine List.ext_getElem? fun j => ?_
    by_cases hj : j = i
    · subst hj
      rw [List.getElem?_set_self hil, o.get hi, he]
    · rw [List.getElem?_set_ne (fun z => hj z.symm)]
  have hst : step s h = (s.1, s.2.erase i ++ [i]) := by
    rw [← lstep_step o h]
    unfold lstep
    rw [if_pos hm, ha, hset]
  have hnm : nmO s.1 i = h := by rw [nm_at o hi, he]
  have hat : at1 (ordN s) h = at1 s.2 i := by
    obtain ⟨a1, a2⟩ := at1_mem hio
    refine at1_eq ?_ fun m y hmj hy => ?_
    · unfold ordN
      rw [List.getElem?_map, a1]
      exact congrArg some hnm
    · unfold ordN at hy
      rw [List.getElem?_map] at hy
      obtain ⟨j, hj, rfl⟩ := Option.map_eq_some_iff.mp hy
      intro e
      have hjn := o.omem.mp (List.mem_of_getElem? hj)
      exact a2 m j hmj hj (nm_inj o hjn hi (by rw [e, hnm]))
  refine ⟨by rw [hst], ?_, ?_⟩
  · unfold ordN
    exact List.mem_map.mpr ⟨i, hio, hnm⟩
  · rw [hat, hst]
    unfold ordN
    dsimp only
    rw [List.map_append, ← erase_at hio, map_erI, List.map_singleton, hnm]
theorem ord_new (o : Ok n s ns) {h : Str} (hm : some h ∉ s.1) (hz : none ∈ s.1) : (step s h).1 = s.1.set (at1 s.1 none) (some h) ∧ ordN (step s h) = ordN s ++ [h] := by
  have hl := o.nonemem.mp hz
  have hst : step s h = (s.1.set (at1 s.1 none) (some h), s.2 ++ [at1 s.1 none]) := by
    rw [← lstep_step o h]
    unfold lstep
    rw [if_neg hm, if_pos hz]
  refine ⟨by rw [hst], ?_⟩
  rw [hst]
  unfold ordN
  dsimp only
  have hp : at1 s.1 none < s.1.length := by rw [o.atn hl, o.len]; exact hl
  rw [List.map_append, List.map_singleton, nm_set hp, if_pos rfl]
  congr 1
  refine List.map_congr_left fun i hi => ?_
  rw [nm_set hp, if_neg]
  rw [o.atn hl]
  have := o.omem.mp hi
  omega
theorem ord_over (o : Ok n s ns) {h : Str} {p : Nat} {O' : List Nat} (hm : some h ∉ s.1) (hz : none ∉ s.1) (hO : s.2 = p :: O') : p < s.1.length ∧ (step s h).1 = s.1.set p (some h) ∧ (∃ x rest, ordN s = x :: rest ∧ some x ∈ s.1 ∧ at1 s.1 (some x) = p ∧ ordN (step s h) = rest ++ [h]) := by
  have hpn : p < ns.length := o.omem.mp (by rw [hO]; exact List.mem_cons_self)
  have hp : p < s.1.length := by rw [o.len]; have := o.le; omega
  have hst : step s h = (s.1.set p (some h), O' ++ [p]) := by
    rw [← lstep_step o h]
    unfold lstep
    rw [if_neg hm, if_neg hz, hO]
  refine ⟨hp, by rw [hst], nmO s.1 p, O'.map (nmO s.1), ?_, ?_, ?_, ?_⟩
  · unfold ordN
    rw [hO, List.map_cons]
  · rw [nm_at o hpn]
    exact o.mem.mpr (List.getElem_mem hpn)
  · rw [nm_at o hpn]
    exact o.ats hpn
  · rw [hst]
    unfold ordN
    dsimp only
    rw [List.map_append, List.map_singleton, nm_set hp, if_pos rfl]
    congr 1
    refine List.map_congr_left fun i hi => ?_
    rw [nm_set hp, if_neg]
    rintro rfl
    have hd := o.ond
    rw [hO] at hd
    exact (List.nodup_cons.mp hd).1 hi
theorem ord_none (o : Ok n s ns) {h : Str} (hm : some h ∉ s.1) (hs : s.1 = []) : step s h = s := by
  have h1 := o.olen
  have h2 := o.len
  have h3 := o.le
  rw [hs] at h2
  have h4 : 0 = n := h2
  have hO : s.2 = [] := List.length_eq_zero_iff.mp (by omega)
  rw [← lstep_step o h]
  unfold lstep
  rw [if_neg hm, if_neg (by rw [hs]; exact fun z => nomatch z), hO]
theorem full_order (o : Ok n s ns) (hz : none ∉ s.1) (hne : s.1 ≠ []) : ∃ p O', s.2 = p :: O' := by
  have h1 := o.olen
  have h2 := o.len
  have h3 := o.le
  have hfull : ns.length = n := by
    have := o.nonemem
    by_cases hlt : ns.length < n
    · exact absurd (this.mpr hlt) hz
    · omega
  cases hO : s.2 with
  | cons p O' => exact ⟨p, O', rfl⟩
  | nil =>
    rw [hO] at h1
    have h4 : 0 = ns.length := h1
    exact absurd (List.length_eq_zero_iff.mp (by omega)) hne
end
theorem in_str (h : Str) (l : List Str) (hm : h ∈ l) : (l.map V.str)[at1 l h]? = some (.str h) ∧ ∀ (m : Nat) (z : V), m < at1 l h → (l.map V.str)[m]? = some z → eqV z (.str h) = false := by
  obtain ⟨a1, a2⟩ := at1_mem hm
  refine ⟨by rw [List.getElem?_map, a1]; rfl, fun m z hmj hz => ?_⟩
  rw [List.getElem?_map] at hz
  obtain ⟨y, hy, rfl⟩ := Option.map_eq_some_iff.mp hz
  have := eq_sV (some y) (some h)
  rw [show eqV (V.str y) (V.str h) = _ from this]
  exact decide_eq_false fun e => a2 m y hmj hy (by injection e)
theorem flat_str (l : List Str) : (l.map V.str).all flatV = true := by
  rw [List.all_eq_true]
  intro v hv
  obtain ⟨y, _, rfl⟩ := List.mem_map.mp hv
  rfl
end K02

set_option Elab.async false
set_option maxRecDepth 100000
set_option maxHeartbeats 4000000
namespace K02
open PySem PySem.Spec PyProof.Rows L2
def five : List Str := ["a", "b", "c", "longname", "zz"]
theorem five_ok : ∀ h ∈ five, nameS h = true := by decide +kernel
/-- what is no list stays -/
def Kn (H H' : Hp) : Prop := ∀ x o, (∀ ys, o ≠ HO.lst ys) → H x = some o → H' x = some o
theorem Kn.trans {H H1 H2 : Hp} (a : Kn H H1) (c : Kn H1 H2) : Kn H H2 := fun x o h e => c x o h (a x o h e)
theorem Ext.kn {H H' : Hp} (h : Ext H H') : Kn H H' := fun x o _ e => h x o e
theorem Kn.rfl' {H : Hp} : Kn H H := fun _ _ _ h => h
theorem ExtM.kn {B c : Addr} {N : Nat} {H H' : Hp} (hB : BagAt H B c N) (e : ExtM B H H') : Kn H H' := fun x o ho h => e x o (fun z => by
  obtain ⟨ns, i, z', n, m, h1, _⟩ := hB
  rw [z, h1] at h
  cases h
  exact ho _ rfl) h
def ExtS (b s : Addr) (H H' : Hp) : Prop := ∀ x o, x ≠ b → x ≠ s → H x = some o → H' x = some o
theorem ExtS.rfl' {b s : Addr} {H : Hp} : ExtS b s H H := fun _ _ _ _ h => h
theorem ExtS.trans {b s : Addr} {H H1 H2 : Hp} (a : ExtS b s H H1) (c : ExtS b s H1 H2) : ExtS b s H H2 := fun x o h1 h2 e => c x o h1 h2 (a x o h1 h2 e)
theorem Ext.s {b s : Addr} {H H' : Hp} (h : Ext H H') : ExtS b s H H' := fun x o _ _ e => h x o e
theorem ExtS.mut {b s l : Addr} {H H' : Hp} {o : HO} (e : ExtS b s H H') (hl : H l = none) : ExtS b s H (L2.upd H' l o) := fun x u h1 h2 h => by
  rw [upd_ne (ne_of_none h hl)]
  exact e x u h1 h2 h
theorem ExtS.none {b s t : Addr} {H H' : Hp} (e : ExtS b s H H') (h1 : t ≠ b) (h2 : t ≠ s) (h : H' t = none) : H t = none := by
  cases z : H t with
  | none => rfl
  | some o =>
    rw [e t o h1 h2 z] at h
    cases h
/-- the law's own book: its slots, its names in order -/
def OwnAt (H : Hp) (O sl so : Addr) (s : St Str) : Prop := H O = some (.lst [.ref sl, .ref so]) ∧ H sl = some (.lst (s.1.map sV)) ∧ H so = some (.lst ((ordN s).map V.str)) ∧ sl ≠ so ∧ O ≠ sl ∧ O ≠ so
theorem OwnAt.ext {H H' : Hp} {O sl so : Addr} {s : St Str} (h : OwnAt H O sl so s) (e : Ext H H') : OwnAt H' O sl so s := ⟨e _ _ h.1, e _ _ h.2.1, e _ _ h.2.2.1, h.2.2.2⟩
theorem OwnAt.new {H : Hp} {O sl so x : Addr} {s : St Str} (h : OwnAt H O sl so s) (hx : H x = none) : x ≠ O ∧ x ≠ sl ∧ x ≠ so := ⟨(ne_of_none h.1 hx).symm, (ne_of_none h.2.1 hx).symm, (ne_of_none h.2.2.1 hx).symm⟩
theorem OwnAt.kn {H H' : Hp} {O sl so : Addr} {s : St Str} (h : OwnAt H O sl so s) (e : ExtS sl so H H') : Kn H H' := fun x o ho hx => e x o (fun z => by
  rw [z, h.2.1] at hx
  cases hx
  exact ho _ rfl) (fun z => by
  rw [z, h.2.2.1] at hx
  cases hx
  exact ho _ rfl) hx
theorem OwnAt.upd {H : Hp} {O sl so l : Addr} {s : St Str} {o : HO} (h : OwnAt H O sl so s) (h1 : l ≠ O) (h2 : l ≠ sl) (h3 : l ≠ so) : OwnAt (L2.upd H l o) O sl so s := ⟨by rw [upd_ne h1.symm]; exact h.1, by rw [upd_ne h2.symm]; exact h.2.1, by rw [upd_ne h3.symm]; exact h.2.2.1, h.2.2.2⟩
section
variable {P : Program} {w : World} {K : PySem.W.Frag} {mg : Str → Option Value} {base : Heap} {A : Ad}
theorem Kn.sqT {H H' : Hp} {a : Addr} {xs : List V} (e : Kn H H') (h : SqT K H a xs) : SqT K H' a xs := by
  rcases h with (h | ⟨o, h⟩) | h
  · exact .inl (.inl (e a _ (fun ys z => nomatch z) h))
  · exact .inl (.inr ⟨o, e a _ (fun ys z => nomatch z) h⟩)
  · exact .inr h
theorem Kn.wd {H H' : Hp} {ws : List V} {ts : List (List V)} (e : Kn H H') (h : Wd K H ws ts) : Wd K H' ws ts := ⟨h.1, fun i x t a b => by
  obtain ⟨q, r, z⟩ := h.2 i x t a b
  exact ⟨q, r, e.sqT z⟩⟩
theorem Kn.bk {H H' : Hp} {b : Addr} {n : Nat} {s : St Str} (e : Kn H H') (h : BkAt K A H b n s) : BkAt K A H' b n s := by
  obtain ⟨dx, ps, po, h1, ⟨o, h2, h2'⟩, h3⟩ := h
  exact ⟨dx, ps, po, e _ _ (fun ys z => nomatch z) h1, ⟨o, e _ _ (fun ys z => nomatch z) h2, h2'⟩, e.sqT h3⟩
def spLLetter : Sp := fun vs H Q _ => ∃ (B c : Addr) (N m : Nat), vs = [.ref B, .int (m : Int)] ∧ BagAt H B c N ∧ N ≤ 800000 ∧ 1 ≤ m ∧ m ≤ 1000 ∧ ∀ q t (hs : List Str) (body : Nat) H', BagAt H' B c (N + 7) → ExtM B H H' → H' q = some (.tup [.ref t, .int (body : Int)]) → H' t = some (.tup (hs.map V.str)) → hs.length ≤ 4 → (∀ h, h ∈ hs → h ∈ five) → body < m → Q (.ref q) H'
theorem ok_lletter {f : Addr} {fd : FuncData} (F : Fun K "_law_letter" "_law_letter" s__law_letter f fd) (T : Txt K mg A) (O__law_draw : Own P w K mg base CX0 "_law_draw" 1 pm__law_draw spDraw) : FnOk P w K mg base CX0 2 f fd pm__law_letter spLLetter := by
  refine F.ok sc__law_letter (fun vs H Q E h => ?_) (fun cdv A' outer sh H vs Q E hr h => ?_)
  · obtain ⟨_, _, _, _, rfl, _⟩ := h
    rfl
  · obtain ⟨B, c, N, m, rfl, hB, hN, hm1, hm, q⟩ := h
    refine ⟨_, pss_cons (ps_set (i := 2) sc__law_letter.nd rfl (Or.inr rfl) (pe_lst (pa_cons (pe_str) (pa_cons (pe_str) (pa_cons (pe_str) (pa_cons (pe_str) (pa_cons (pe_str) pa_nil)))))))
      (pss_cons (ps_setLc (i := 3) (own := [("_law_k", 4)]) (g := gName 4) (by rfl) sc__law_letter.nd rfl rfl (sw_true rfl rfl rfl (by decide +kernel)) (pi_range1 rfl T.n_range (pa_cons (pe_own O__law_draw (hr.mono (by decide)) pass0 (pa_cons (pv 0) (pa_cons (pe_int) pa_nil))) pa_nil)) (blkOk_by (own := [("_law_k", 4)]) (N := nm__law_letter) (sc := defScope s__law_letter) (by decide +kernel)) (fun _ _ _ _ _ => pg_name (i := 4) sc__law_letter.nd rfl (Or.inl rfl)) (fun s1 H1 C1 cl fp => pts_nil) (fun s1 H1 C1 cl fp => pe_ix (ix_listK (K := K) rfl) (pv 2) (pe_own O__law_draw (hr.mono (by decide)) pass0 (pa_cons (pv 0) (pa_cons (pe_int) pa_nil))) (fun _ _ => rfl)))
      (pss_one (ps_ret (pe_tup (pa_cons (pe_callTy call_tuple_of (by rfl) T.n_tuple (by decide +kernel) (pa_cons (pv 3) pa_nil)) (pa_cons (pe_own O__law_draw (hr.mono (by decide)) pass0 (pa_cons (pv 0) (pa_cons (pv 1) pa_nil))) pa_nil)))))), ?_⟩
    refine ⟨by show 5 ≤ sizeLine; decide, fun L hL => ?_⟩
    have hLB := (hB.new hL).1
    have e1 := Ext.upd (o := .lst (five.map V.str)) hL
    have hB1 := hB.ext e1
    have hL1 : L2.upd H L (.lst (five.map V.str)) L = some (.lst (five.map V.str)) := upd_same
    replace hL1 : L2.upd H L (.lst [V.str "a", .str "b", .str "c", .str "longname", .str "zz"]) L = some (.lst (five.map V.str)) := hL1
    replace hB1 : BagAt (L2.upd H L (.lst [V.str "a", .str "b", .str "c", .str "longname", .str "zz"])) B c N := hB1
    replace e1 : Ext H (L2.upd H L (.lst [V.str "a", .str "b", .str "c", .str "longname", .str "zz"])) := e1
    generalize L2.upd H L (.lst [V.str "a", .str "b", .str "c", .str "longname", .str "zz"]) = H1 at hL1 hB1 e1 ⊢
    refine ⟨_, rfl, B, c, N, 5, rfl, hB1, by omega, by omega, by omega, fun y H2 y0 y5 hB2 x2 => ⟨y, rfl, by omega, by omega, fun D hD => ?_⟩⟩
    obtain ⟨hDB, hDc⟩ := hB2.new hD
    have hL2 := x2 _ _ hLB hL1
    have hDL : D ≠ L := fun e => by rw [e, hL2] at hD; cases hD
    obtain ⟨k, rfl⟩ : ∃ k : Nat, y = (k : Int) := ⟨y.toNat, by omega⟩
    rw [Int.toNat_natCast]
    refine lc_range (fun i H' => H' L = some (.lst (five.map V.str)) ∧ ∃ hs : List Str, H' D = some (.lst (hs.map V.str)) ∧ hs.length = i ∧ (∀ h, h ∈ hs → h ∈ five) ∧ BagAt H' B c (N + 1 + i) ∧ ExtM B H2 H') ⟨by rw [upd_ne hDL.symm]; exact hL2, [], upd_same, rfl, (fun h hh => absurd hh List.not_mem_nil), hB2.ext (Ext.upd hD), Ext.m (Ext.upd hD)⟩ (fun i H3 hi pv => ?_) (fun H3 pv => ?_)
    · obtain ⟨hL3, hs, hD3, hl, hf, hB3, x3⟩ := pv
      refine ⟨rfl, _, rfl, _, rfl, B, c, _, 5, rfl, hB3, by omega, by omega, by omega, fun y H4 y0 y5 hB4 x4 => ?_⟩
      obtain ⟨j, rfl⟩ : ∃ j : Nat, y = (j : Int) := ⟨y.toNat, by omega⟩
      have hj : j < five.length := by show j < 5; omega
      have hL4 := x4 _ _ hLB hL3
      have hD4 := x4 _ _ hDB hD3
      refine ⟨L, _, (j : Int), .str five[j], rfl, rfl, SqL.of hL4, atI_nat (by rw [List.getElem?_map, List.getElem?_eq_getElem hj]; rfl), ?_⟩
      have mt : ∀ x o, x ≠ D → H4 x = some o → L2.upd H4 D (.lst (hs.map V.str ++ [V.str five[j]])) x = some o := fun x o hx h => by
        rw [upd_ne hx]
        exact h
      refine ⟨_, hD4, small_sz (by rw [List.length_map]; omega), mt _ _ hDL.symm hL4, hs ++ [five[j]], by rw [upd_same, List.map_append]; rfl, by rw [List.length_append, hl]; rfl, ?_, ?_, ?_⟩
      · intro h hh
        rcases List.mem_append.mp hh with h' | h'
        · exact hf h h'
        · rw [List.mem_singleton.mp h']
          exact List.getElem_mem hj
      · exact hB4.upd hDB hDc
      · intro x o hx h
        have hxD : x ≠ D := ne_of_none h hD
        exact mt x o hxD ((x3.trans x4) x o hx h)
    · obtain ⟨hL3, hs, hD3, hl, hf, hB3, x3⟩ := pv
      refine ⟨_, rfl, D, _, rfl, .inl ⟨SqL.of hD3, fun t ht => ?_⟩⟩
      have e4 := Ext.upd (o := .tup (hs.map V.str)) ht
      have hB4 := hB3.ext e4
      have ht4 : L2.upd H3 t (.tup (hs.map V.str)) t = some (.tup (hs.map V.str)) := upd_same
      have x4 := x3.trans (Ext.m (st := B) e4)
      generalize L2.upd H3 t (.tup (hs.map V.str)) = H4 at hB4 ht4 x4 ⊢
      refine ⟨_, rfl, _, rfl, B, c, _, (m : Int), rfl, hB4, by omega, by omega, by omega, fun y H5 y0 ym hB5 x5 => ⟨by show 2 ≤ sizeLine; decide, fun p hp => ?_⟩⟩
      obtain ⟨j, rfl⟩ : ∃ j : Nat, y = (j : Int) := ⟨y.toNat, by omega⟩
      have e6 := Ext.upd (o := .tup [V.ref t, .int (j : Int)]) hp
      have ht5 := (x5.kn hB4) t (.tup (hs.map V.str)) (fun ys z => by cases z) ht4
      exact q p t hs j _ ((hB5.ext e6).le (by omega)) (((((Ext.m e1).trans x2).trans x4).trans x5).trans (Ext.m e6)) upd_same (e6 _ _ ht5) (by omega) hf (by omega)
end
end K02

set_option Elab.async false
set_option maxRecDepth 100000
set_option maxHeartbeats 4000000
namespace K02
open PySem PySem.Spec PyProof.Rows L2
theorem fl_non : ∀ v ∈ ([] : List V), Fl v := fun _ h => nomatch h
section
variable {P : Program} {w : World} {K : PySem.W.Frag} {mg : Str → Option Value} {base : Heap} {A : Ad}
def spUse : Sp := fun vs H Q _ => ∃ (O sl so : Addr) (n : Nat) (s : St Str) (h : Str), vs = [.ref O, .str h] ∧ OwnAt H O sl so s ∧ Good n s ∧ ∀ t H', ExtS sl so H H' → OwnAt H' O sl so (step s h) → H t = none → H' t = some (.tup (wordV s h)) → Q (.ref t) H'
theorem ok_use {f : Addr} {fd : FuncData} (F : Fun K "_law_use" "_law_use" s__law_use f fd) (T : Txt K mg A) : FnOk P w K mg base CX0 1 f fd pm__law_use spUse := by
  refine F.ok sc__law_use (fun vs H Q E h => ?_) (fun cdv A' outer sh H vs Q E hr h => ?_)
  · obtain ⟨_, _, _, _, _, _, rfl, _⟩ := h
    rfl
  · obtain ⟨O, sl, so, n, s, h, rfl, hO, g, q⟩ := h
    refine ⟨_, pss_cons (ps_asg (pv 0) (pg_unl rfl (pgs_cons (pg_name (i := 2) sc__law_use.nd rfl (Or.inl rfl)) (pgs_cons (pg_name (i := 3) sc__law_use.nd rfl (Or.inl rfl)) (pgs_nil)))))
      (pss_cons (ps_if (pt_cmpR op_in_seq (pv 1) (pv 2) (by with_unfolding_all rfl)) (pss_cons (ps_expr (pe_bm PySem.F.plainAttrs_list PySem.F.slot_list_remove PySem.F.type_list_remove mt_removeF (pv 3) (pa_cons (pv 1) pa_nil)))
      (pss_cons (ps_expr (pe_bm PySem.F.plainAttrs_list PySem.F.slot_list_append PySem.F.type_list_append mt_append (pv 3) (pa_cons (pv 1) pa_nil)))
      (pss_one (ps_ret (pe_tup (pa_cons (pe_str) (pa_cons (pe_bm PySem.F.plainAttrs_list PySem.F.slot_list_index PySem.F.type_list_index mt_index (pv 2) (pa_cons (pv 1) pa_nil)) pa_nil))))))) (pss_nil))
      (pss_cons (ps_if (pt_cmpR (op_neD hr.units) (pv 2) (pe_lst (pa_nil)) (nomark _)) (pss_cons (ps_set (i := 4) sc__law_use.nd rfl (Or.inl rfl) (pe_int))
      (Evl.pss_cut (ps_if (pt_cmpR op_in_seq (pe_non) (pv 2) (by with_unfolding_all rfl)) (pss_one (ps_set (i := 4) sc__law_use.nd rfl (Or.inl rfl) (pe_bm PySem.F.plainAttrs_list PySem.F.slot_list_index PySem.F.type_list_index mt_index (pv 2) (pa_cons (pe_non) pa_nil)))) (pss_cons (ps_set (i := 4) sc__law_use.nd rfl (Or.inl rfl) (pe_bm PySem.F.plainAttrs_list PySem.F.slot_list_index PySem.F.type_list_index mt_index (pv 2) (pa_cons (pe_ix ix_list (pv 3) (pe_int) (fun _ _ => rfl)) pa_nil)))
      (pss_one (ps_expr (pe_bm PySem.F.plainAttrs_list PySem.F.slot_list_pop PySem.F.type_list_pop mt_popAt (pv 3) (pa_cons (pe_int) pa_nil))))))
      (pss_cons (ps_asg (pv 1) (pg_sub (pv 2) (pv 4) set_list))
      (pss_one (ps_expr (pe_bm PySem.F.plainAttrs_list PySem.F.slot_list_append PySem.F.type_list_append mt_append (pv 3) (pa_cons (pv 1) pa_nil))))))) (pss_nil))
      (pss_one (ps_ret (pe_tup (pa_cons (pe_str) (pa_cons (pv 1) pa_nil))))))), ?_⟩
    obtain ⟨hn, ns, ok, hns⟩ := id g
    obtain ⟨o1, o2, o3, d1, d2, d3⟩ := id hO
    have hlen : (ordN s).length ≤ 4 := by
      rw [ordN_len, ok.olen]
      have := ok.le
      omega
    refine ⟨_, rfl, O, _, rfl, SqL.of o1, rfl, _, _, rfl, _, _, rfl, rfl, ?_⟩
    refine ⟨_, rfl, _, rfl, sl, _, rfl, .inl (SqL.of o2), rfl, flat_sV, _, rfl, ?_⟩
    rw [show (if false = true then !inV (V.str h) (s.1.map sV) else inV (V.str h) (s.1.map sV)) = decide (some h ∈ s.1) from in_sV (some h) s.1]
    by_cases hm : some h ∈ s.1
    · rw [decide_eq_true hm]
      obtain ⟨m1, m2, m3⟩ := ord_same ok hm
      obtain ⟨b1, b2⟩ := in_str h (ordN s) m2
      have hhh : eqV (V.str h) (V.str h) = true := by
        show eqV (sV (some h)) (sV (some h)) = true
        rw [eq_sV]
        exact decide_eq_true rfl
      refine iteT ⟨_, rfl, .inl ⟨rfl, _, SqL.of o3⟩, _, rfl, so, _, .str h, _, _, rfl, rfl, o3, rfl, flat_str _, b1, hhh, b2, ?_⟩
      have x1 : ExtS sl so H (L2.upd H so (.lst (((ordN s).map V.str).eraseIdx (at1 (ordN s) h)))) := fun x o h1 h2 hx => by rw [upd_ne h2]; exact hx
      have s1 : L2.upd H so (.lst (((ordN s).map V.str).eraseIdx (at1 (ordN s) h))) so = some (.lst (((ordN s).eraseIdx (at1 (ordN s) h)).map V.str)) := by rw [upd_same, map_erI]
      have l1 : L2.upd H so (.lst (((ordN s).map V.str).eraseIdx (at1 (ordN s) h))) sl = some (.lst (s.1.map sV)) := by rw [upd_ne d1]; exact o2
      have O1 : L2.upd H so (.lst (((ordN s).map V.str).eraseIdx (at1 (ordN s) h))) O = some (.lst [.ref sl, .ref so]) := by rw [upd_ne d3]; exact o1
      generalize L2.upd H so (.lst (((ordN s).map V.str).eraseIdx (at1 (ordN s) h))) = H1 at x1 s1 l1 O1 ⊢
      refine ⟨_, rfl, .inl ⟨rfl, _, SqL.of s1⟩, _, rfl, so, _, .str h, rfl, rfl, s1, ?_, ?_⟩
      · have := List.length_eraseIdx_le (ordN s) (at1 (ordN s) h)
        rw [List.length_map]
        exact small_sz (by omega)
      have x2 : ExtS sl so H1 (L2.upd H1 so (.lst (((ordN s).eraseIdx (at1 (ordN s) h)).map V.str ++ [V.str h]))) := fun x o h1 h2 hx => by rw [upd_ne h2]; exact hx
      have s2 : L2.upd H1 so (.lst (((ordN s).eraseIdx (at1 (ordN s) h)).map V.str ++ [V.str h])) so = some (.lst ((ordN (step s h)).map V.str)) := by rw [upd_same, m3, List.map_append]; rfl
      have l2 : L2.upd H1 so (.lst (((ordN s).eraseIdx (at1 (ordN s) h)).map V.str ++ [V.str h])) sl = some (.lst (s.1.map sV)) := by rw [upd_ne d1]; exact l1
      have O2 : L2.upd H1 so (.lst (((ordN s).eraseIdx (at1 (ordN s) h)).map V.str ++ [V.str h])) O = some (.lst [.ref sl, .ref so]) := by rw [upd_ne d3]; exact O1
      generalize L2.upd H1 so (.lst (((ordN s).eraseIdx (at1 (ordN s) h)).map V.str ++ [V.str h])) = H2 at x2 s2 l2 O2 ⊢
      obtain ⟨a1, a2⟩ := at_sV hm
      refine ⟨_, rfl, .inl ⟨rfl, _, SqL.of l2⟩, _, rfl, sl, _, .str h, _, _, rfl, rfl, SqL.of l2, rfl, flat_sV, a1, hhh, a2, ?_⟩
      refine ⟨by show 2 ≤ sizeLine; decide, fun t ht => ?_⟩
      have e3 := Ext.upd (o := .tup [V.str "short", nI (at1 s.1 (some h))]) ht
      have hts : t ≠ sl := (ne_of_none l2 ht).symm
      have htso : t ≠ so := (ne_of_none s2 ht).symm
      refine q t _ ((x1.trans x2).trans (Ext.s e3)) ⟨e3 _ _ O2, by rw [m1]; exact e3 _ _ l2, e3 _ _ s2, d1, d2, d3⟩ ((x1.trans x2).none hts htso ht) ?_
      rw [upd_same]
      unfold wordV
      rw [if_pos hm]
      rfl
    · rw [decide_eq_false hm]
      have hwv : wordV s h = [.str "long", .str h] := by unfold wordV; rw [if_neg hm]
      rw [hwv] at q
      refine iteF ⟨_, rfl, by decide, fun l hl => neD_lst (us := []) (SqL.of (Ext.upd hl _ _ o2)) (SqL.of upd_same) (fl_sV g) fl_non ⟨_, rfl, ?_⟩⟩
      rw [show PyData.eqvAll ((s.1.map sV).map pd) (([] : List V).map pd) = decide (s.1 = []) from eqv_sV s.1 []]
      have e1 := Ext.upd (o := .lst []) hl
      obtain ⟨hlO, hls, hlso⟩ := hO.new hl
      have fin : ∀ H1, ExtS sl so H H1 → OwnAt H1 O sl so (step s h) → ∀ t, H1 t = none → Q (.ref t) (L2.upd H1 t (.tup [V.str "long", .str h])) := fun H1 x1 w1 t ht => by
        obtain ⟨n1, n2, n3⟩ := w1.new ht
        exact q t _ (x1.trans (Ext.s (Ext.upd ht))) (w1.ext (Ext.upd ht)) (x1.none n2 n3 ht) upd_same
      have hO1 := hO.ext e1
      have x1 : ExtS sl so H _ := Ext.s (b := sl) (s := so) e1
      generalize L2.upd H l (.lst []) = H1 at hO1 x1 ⊢
      obtain ⟨o1, o2, o3, _⟩ := id hO1
      by_cases he : s.1 = []
      · rw [decide_eq_true he]
        have hst := ord_none ok hm he
        exact iteF ⟨_, rfl, by show 2 ≤ sizeLine; decide, fun t ht => fin H1 x1 (by rw [hst]; exact hO1) t ht⟩
      · rw [decide_eq_false he]
        refine iteT ⟨fun σ' H' => ∃ (p : Nat) (rest : List Str), σ' = [some (.ref O), some (.str h), some (.ref sl), some (.ref so), some (nI p)] ∧ p < s.1.length ∧ (step s h).1 = s.1.set p (some h) ∧ ordN (step s h) = rest ++ [h] ∧ rest.length ≤ 4 ∧ ExtS sl so H H' ∧ H' O = some (.lst [.ref sl, .ref so]) ∧ H' sl = some (.lst (s.1.map sV)) ∧ H' so = some (.lst (rest.map V.str)), ?_, ?_⟩
        · refine ⟨_, rfl, sl, _, rfl, .inl (SqL.of o2), rfl, flat_sV, _, rfl, ?_⟩
          rw [show (if false = true then !inV V.non (s.1.map sV) else inV V.non (s.1.map sV)) = decide (none ∈ s.1) from in_sV none s.1]
          by_cases hz : none ∈ s.1
          · rw [decide_eq_true hz]
            obtain ⟨a1, a2⟩ := at_sV hz
            obtain ⟨m1, m2⟩ := ord_new ok hm hz
            exact iteT ⟨_, rfl, .inl ⟨rfl, _, SqL.of o2⟩, sl, _, .non, _, _, rfl, rfl, SqL.of o2, rfl, flat_sV, a1, rfl, a2, at1 s.1 none, ordN s, rfl, (List.getElem?_eq_some_iff.mp (at1_mem hz).1).1, m1, m2, hlen, x1, o1, o2, o3⟩
          · rw [decide_eq_false hz]
            obtain ⟨p, O', hO'⟩ := full_order ok hz he
            obtain ⟨hp, m1, x, rest, m2, m3, m4, m5⟩ := ord_over ok hm hz hO'
            rw [m2] at o3 hlen
            obtain ⟨a1, a2⟩ := at_sV m3
            rw [m4] at a1 a2
            refine iteF ⟨_, rfl, .inl ⟨rfl, _, SqL.of o2⟩, _, rfl, so, _, (0 : Int), .str x, rfl, rfl, SqL.of o3, atI_nat (j := 0) rfl, sl, _, .str x, _, _, rfl, rfl, SqL.of o2, rfl, flat_sV, a1, by show eqV (sV (some x)) (sV (some x)) = true; rw [eq_sV]; exact decide_eq_true rfl, a2, ?_⟩
            refine ⟨_, rfl, .inl ⟨rfl, _, SqL.of o3⟩, so, _, 0, 0, .str x, rfl, rfl, o3, by decide, by decide, (ixN_seq (Evl.ixN_nat (j := 0) (by show 0 < (List.map V.str (x :: rest)).length; rw [List.length_map]; exact Nat.succ_pos _))).1, rfl, ?_⟩
            refine ⟨p, rest, rfl, hp, m1, m5, by rw [List.length_cons] at hlen; omega, fun y o h1 h2 hy => by rw [upd_ne h2]; exact x1 y o h1 h2 hy, by rw [upd_ne d3]; exact o1, by rw [upd_ne d1]; exact o2, ?_⟩
            rw [upd_same]
            rfl
        · rintro σ' H2 ⟨p, rest, rfl, hp, m1, m5, hr4, x2, O2, l2, s2⟩
          refine ⟨_, rfl, _, rfl, _, rfl, sl, _, (p : Int), p, rfl, rfl, l2, Evl.ixN_nat (by rw [List.length_map]; exact hp), ?_⟩
          have x3 : ExtS sl so H (L2.upd H2 sl (.lst ((s.1.map sV).set p (.str h)))) := fun y o h1 h2 hy => by rw [upd_ne h1]; exact x2 y o h1 h2 hy
          have l3 : L2.upd H2 sl (.lst ((s.1.map sV).set p (.str h))) sl = some (.lst ((step s h).1.map sV)) := by
            rw [upd_same, m1, List.map_set]
            rfl
          have s3 : L2.upd H2 sl (.lst ((s.1.map sV).set p (.str h))) so = some (.lst (rest.map V.str)) := by rw [upd_ne d1.symm]; exact s2
          have O3 : L2.upd H2 sl (.lst ((s.1.map sV).set p (.str h))) O = some (.lst [.ref sl, .ref so]) := by rw [upd_ne d2]; exact O2
          generalize L2.upd H2 sl (.lst ((s.1.map sV).set p (.str h))) = H3 at x3 l3 s3 O3 ⊢
          refine ⟨_, rfl, .inl ⟨rfl, _, SqL.of s3⟩, _, rfl, so, _, .str h, rfl, rfl, s3, small_sz (by rw [List.length_map]; omega), ?_⟩
          refine ⟨_, rfl, by show 2 ≤ sizeLine; decide, fun t ht => fin _ (fun y o h1 h2 hy => by rw [upd_ne h2]; exact x3 y o h1 h2 hy) ⟨by rw [upd_ne d3]; exact O3, by rw [upd_ne d1]; exact l3, ?_, d1, d2, d3⟩ t ht⟩
          rw [upd_same, m5, List.map_append]
          rfl
end
end K02

set_option Elab.async false
set_option maxRecDepth 100000
set_option maxHeartbeats 4000000
namespace K02
open PySem PySem.Spec PyProof.Rows L2
section
variable {P : Program} {w : World} {K : PySem.W.Frag} {mg : Str → Option Value} {base : Heap} {A : Ad}
def spUnitsL (K : PySem.W.Frag) : Sp := fun vs H Q _ => ∃ (O sl so q t : Addr) (n : Nat) (s : St Str) (hs : List Str) (body cost : Nat), vs = [.ref O, .ref q, .int (cost : Int)] ∧ OwnAt H O sl so s ∧ Good n s ∧ H q = some (.tup [.ref t, .int (body : Int)]) ∧ H t = some (.tup (hs.map V.str)) ∧ 2 ≤ cost ∧ cost ≤ 9 ∧ hs.length ≤ 4 ∧ body ≤ 60 ∧ (∀ h, h ∈ hs → nameS h = true) ∧
  ∀ U ws H', ExtS sl so H H' → OwnAt H' O sl so (hs.foldl step s) → H U = none → H' U = some (.lst ws) → Wd K H' ws (unA s (cost - 1) hs body) → Q (.ref U) H'
theorem ok_unitsL {f : Addr} {fd : FuncData} (F : Fun K "_law_units" "_law_units" s__law_units f fd) (T : Txt K mg A) (O__law_use : Own P w K mg base CX0 "_law_use" 1 pm__law_use spUse) : FnOk P w K mg base CX0 2 f fd pm__law_units (spUnitsL K) := by
  refine F.ok sc__law_units (fun vs H Q E h => ?_) (fun cdv A' outer sh H vs Q E hr h => ?_)
  · obtain ⟨_, _, _, _, _, _, _, _, _, _, rfl, _⟩ := h
    rfl
  · obtain ⟨O, sl, so, q, t, n, s, hs, body, cost, rfl, hO, g, hq, ht, c2, c9, h4, hb60, hhs, k⟩ := h
    refine ⟨_, pss_cons (ps_set (i := 3) sc__law_units.nd rfl (Or.inl rfl) (pe_lst (pa_nil)))
      (pss_cons (ps_for PassesOwn.never rfl (pi_tup (pe_ix ix_tup (pv 1) (pe_int) (fun _ _ => rfl))) (pg_name (i := 4) sc__law_units.nd rfl (Or.inl rfl)) (pss_cons (ps_set (i := 5) sc__law_units.nd rfl (Or.inl rfl) (pe_own O__law_use (hr.mono (by decide)) pass0 (pa_cons (pv 0) (pa_cons (pv 4) pa_nil))))
      (pss_cons (ps_expr (pe_bm PySem.F.plainAttrs_list PySem.F.slot_list_append PySem.F.type_list_append mt_append (pv 3) (pa_cons (pv 5) pa_nil)))
      (pss_one (ps_if (pt_cmpR op_eq (pe_ix ix_tup (pv 5) (pe_int) (fun _ _ => rfl)) (pe_str) (nomark _)) (pss_one (ps_set (i := 3) sc__law_units.nd rfl (Or.inl rfl) (pe_op op_cat (pv 3) (pe_op op_rep (pe_lst (pa_cons (pe_tup (pa_cons (pe_str) pa_nil)) pa_nil)) (pe_op op_sub (pv 2) (pe_int)))))) (pss_nil))))))
      (pss_one (ps_ret (pe_op op_cat (pv 3) (pe_op op_rep (pe_lst (pa_cons (pe_tup (pa_cons (pe_str) pa_nil)) pa_nil)) (pe_ix ix_tup (pv 1) (pe_int) (fun _ _ => rfl))))))), ?_⟩
    refine ⟨by decide, fun U0 hU0 => ?_⟩
    obtain ⟨u1, u2, u3⟩ := hO.new hU0
    have e1 := Ext.upd (o := .lst []) hU0
    refine ⟨_, rfl, q, _, (0 : Int), .ref t, rfl, rfl, SqT.of (e1 _ _ hq), atI_nat (j := 0) rfl, t, rfl, ⟨_, SqT.of (e1 _ _ ht)⟩, ?_⟩
    refine for_it (walk_tup (xs := hs.map V.str)) (fun i σ' H' => ∃ U ws o4 o5, σ' = [some (.ref O), some (.ref q), some (.int (cost : Int)), some (.ref U), o4, o5] ∧ ExtS sl so H H' ∧ OwnAt H' O sl so ((hs.take i).foldl step s) ∧ Good n ((hs.take i).foldl step s) ∧ H U = none ∧ H' U = some (.lst ws) ∧ Wd K H' ws (unV s (cost - 1) (hs.take i)))
      ⟨U0, [], _, _, rfl, Ext.s e1, hO.ext e1, g, hU0, upd_same, Wd.nil⟩ (fun i σ' H' _ pv => ?_) (fun i x σ' H' H2 hi pv hy => ?_) (fun σ' H' pv => ?_)
    · obtain ⟨U, ws, _, _, _, x2, _⟩ := pv
      exact (hO.kn x2).sqT (SqT.of ht)
    · obtain ⟨U, ws, o4, o5, rfl, x2, w2, gc, hU, hUl, hw⟩ := pv
      obtain ⟨rfl, hx⟩ := hy
      replace hx : (hs.map V.str)[i]? = some x := hx
      rw [List.getElem?_map] at hx
      obtain ⟨h, hh, rfl⟩ := Option.map_eq_some_iff.mp hx
      have hn := hhs h (List.mem_of_getElem? hh)
      have hil := (List.getElem?_eq_some_iff.mp hh).1
      have hwl : ws.length ≤ 40 := by
        rw [hw.1]
        refine Nat.le_trans (unV_len _ _ _) ?_
        rw [List.length_take]
        have h9 : cost - 1 + 1 ≤ 10 := by omega
        exact Nat.mul_le_mul (show min i hs.length ≤ 4 by omega) h9
      obtain ⟨nO, nl, no⟩ := hO.new hU
      rw [take_snoc hh, unV_snoc, List.foldl_append]
      generalize (hs.take i).foldl step s = R at w2 gc ⊢
      generalize unV s (cost - 1) (hs.take i) = ts at hw ⊢
      refine ⟨_, rfl, _, rfl, O, sl, so, n, R, h, rfl, w2, gc, fun t2 H3 x3 w3 ht2n ht2 => ?_⟩
      have hU3 := x3 _ _ nl no hUl
      have hw3 := (w2.kn x3).wd hw
      refine ⟨_, rfl, .inl ⟨rfl, _, SqL.of hU3⟩, _, rfl, U, ws, _, rfl, rfl, hU3, small_sz (by omega), ?_⟩
      have ht3 : (L2.upd H3 U (.lst (ws ++ [.ref t2]))) t2 = some (.tup (wordV R h)) := by
        rw [upd_ne (fun z => by rw [z, hU3] at ht2; cases ht2)]
        exact ht2
      have hw4 : Wd K (L2.upd H3 U (.lst (ws ++ [.ref t2]))) (ws ++ [.ref t2]) (ts ++ [wordV R h]) := (hw3.mut hU3).app (Wd.one (SqT.of ht3))
      have x4 : ExtS sl so H (L2.upd H3 U (.lst (ws ++ [.ref t2]))) := (x2.trans x3).mut hU
      have w4 := w3.upd (o := .lst (ws ++ [.ref t2])) nO nl no
      have hU4 : (L2.upd H3 U (.lst (ws ++ [.ref t2]))) U = some (.lst (ws ++ [.ref t2])) := upd_same
      generalize L2.upd H3 U (.lst (ws ++ [.ref t2])) = H4 at ht3 hw4 x4 w4 hU4 ⊢
      have hhd : (wordV R h)[0]? = some (.str (if some h ∈ R.1 then "short" else "long")) := by
        unfold wordV
        split <;> rfl
      have fin : ∀ (U' : Addr) (ws' : List V) (H5 : Hp), ExtS sl so H H5 → OwnAt H5 O sl so (step R h) → H U' = none → H5 U' = some (.lst ws') → Wd K H5 ws' (ts ++ (wordV R h :: (if some h ∈ R.1 then [] else List.replicate (cost - 1) [.str "rest"]))) → ∃ U ws o4 o5, ([some (.ref O), some (.ref q), some (.int (cost : Int)), some (.ref U'), some (.str h), some (.ref t2)] : List (Option V)) = [some (.ref O), some (.ref q), some (.int (cost : Int)), some (.ref U), o4, o5] ∧ ExtS sl so H H5 ∧ OwnAt H5 O sl so (List.foldl step R [h]) ∧ Good n (List.foldl step R [h]) ∧ H U = none ∧ H5 U = some (.lst ws) ∧ Wd K H5 ws (ts ++ (wordV R h :: (if some h ∈ R.1 then [] else List.replicate (cost - 1) [.str "rest"]))) :=
        fun U' ws' H5 a1 a2 a3 a4 a5 => ⟨U', ws', _, _, rfl, a1, a2, good_step gc hn, a3, a4, a5⟩
      refine ⟨_, rfl, t2, _, 0, .str (if some h ∈ R.1 then "short" else "long"), rfl, rfl, SqT.of ht3, atI_nat (j := 0) hhd, rfl, _, rfl, ?_⟩
      rw [dvs]
      by_cases hm : some h ∈ R.1
      · rw [show decide ((if some h ∈ R.1 then ("short" : Str) else "long") = "long") = false from by rw [if_pos hm]; decide]
        exact iteF (fin U _ H4 x4 w4 hU hU4 (by rw [if_pos hm]; exact hw4))
      · rw [show decide ((if some h ∈ R.1 then ("short" : Str) else "long") = "long") = true from decide_eq_true (if_neg hm)]
        refine iteT ⟨_, rfl, by show 1 ≤ sizeLine; decide, fun r hr0 => ⟨by show 1 ≤ sizeLine; decide, fun r1 hr1 => ⟨_, rfl, _, _, rfl, rfl, r1, _, _, rfl, rfl, upd_same, by omega, by omega, ?_, fun r2 hr2 => ?_⟩⟩⟩
        · show 1 * _ ≤ sizeLine
          exact Nat.le_of_lt (small_sz (by omega))
        rw [flat_rep, show ((cost : Int) - 1).toNat = cost - 1 by omega]
        have e5 := ((Ext.upd (o := .tup [V.str "rest"]) hr0).trans (Ext.upd (o := .lst [V.ref r]) hr1)).trans (Ext.upd (o := .lst (List.replicate (cost - 1) (V.ref r))) hr2)
        have hr5 := ((Ext.upd (o := .lst [V.ref r]) hr1).trans (Ext.upd (o := .lst (List.replicate (cost - 1) (V.ref r))) hr2)) r _ (upd_same (H := H4) (o := .tup [V.str "rest"]))
        have h5 : L2.upd (L2.upd (L2.upd H4 r (.tup [V.str "rest"])) r1 (.lst [V.ref r])) r2 (.lst (List.replicate (cost - 1) (V.ref r))) r2 = some (.lst (List.replicate (cost - 1) (V.ref r))) := upd_same
        generalize L2.upd (L2.upd (L2.upd H4 r (.tup [V.str "rest"])) r1 (.lst [V.ref r])) r2 (.lst (List.replicate (cost - 1) (V.ref r))) = H5 at e5 hr5 h5 ⊢
        refine ⟨U, r2, _, _, rfl, rfl, e5 _ _ hU4, h5, ?_, fun U2 hU2 => ?_⟩
        · rw [List.length_append, List.length_replicate, List.length_singleton]
          exact Nat.le_of_lt (small_sz (by omega))
        have e6 := Ext.upd (o := .lst ((ws ++ [V.ref t2]) ++ List.replicate (cost - 1) (V.ref r))) hU2
        have x5 := x4.trans (Ext.s (b := sl) (s := so) e5)
        obtain ⟨m1, m2, m3⟩ := (w4.ext e5).new hU2
        refine fin U2 _ _ (x5.trans (Ext.s e6)) ((w4.ext e5).ext e6) (x5.none m2 m3 hU2) upd_same ?_
        have z0 := ((hw4.ext e5).app (Wd.rep (cost - 1) (SqT.of hr5))).ext e6
        rw [List.append_assoc ts] at z0
        rw [if_neg hm]
        exact z0
    · obtain ⟨U, ws, o4, o5, rfl, x2, w2, gc, hU, hUl, hw⟩ := pv
      rw [List.length_map, List.take_length] at w2 hw
      have hwl : ws.length ≤ 40 := by
        rw [hw.1]
        refine Nat.le_trans (unV_len _ _ _) ?_
        have h9 : cost - 1 + 1 ≤ 10 := by omega
        exact Nat.mul_le_mul h4 h9
      have hq2 := (hO.kn x2) q (.tup [.ref t, .int (body : Int)]) (fun ys z => by cases z) hq
      refine ⟨_, rfl, by show 1 ≤ sizeLine; decide, fun r hr0 => ⟨by show 1 ≤ sizeLine; decide, fun r1 hr1 => ?_⟩⟩
      have e3 := (Ext.upd (o := .tup [V.str "body"]) hr0).trans (Ext.upd (o := .lst [V.ref r]) hr1)
      refine ⟨_, rfl, q, _, (1 : Int), .int (body : Int), rfl, rfl, SqT.of (e3 _ _ hq2), atI_nat (j := 1) rfl, r1, _, _, rfl, rfl, upd_same, by omega, by omega, ?_, fun r2 hr2 => ?_⟩
      · show 1 * _ ≤ sizeLine
        exact Nat.le_of_lt (small_sz (by omega))
      rw [flat_rep, Int.toNat_natCast]
      have e5 := e3.trans (Ext.upd (o := .lst (List.replicate body (V.ref r))) hr2)
      have hr5 := ((Ext.upd (o := .lst [V.ref r]) hr1).trans (Ext.upd (o := .lst (List.replicate body (V.ref r))) hr2)) r _ (upd_same (H := H') (o := .tup [V.str "body"]))
      have h5 : L2.upd (L2.upd (L2.upd H' r (.tup [V.str "body"])) r1 (.lst [V.ref r])) r2 (.lst (List.replicate body (V.ref r))) r2 = some (.lst (List.replicate body (V.ref r))) := upd_same
      generalize L2.upd (L2.upd (L2.upd H' r (.tup [V.str "body"])) r1 (.lst [V.ref r])) r2 (.lst (List.replicate body (V.ref r))) = H5 at e5 hr5 h5 ⊢
      refine ⟨U, r2, _, _, rfl, rfl, e5 _ _ hUl, h5, ?_, fun U2 hU2 => ?_⟩
      · rw [List.length_replicate]
        exact Nat.le_of_lt (small_sz (by omega))
      have e6 := Ext.upd (o := .lst (ws ++ List.replicate body (V.ref r))) hU2
      have x5 := x2.trans (Ext.s (b := sl) (s := so) e5)
      obtain ⟨m1, m2, m3⟩ := (w2.ext e5).new hU2
      exact k U2 _ _ (x5.trans (Ext.s e6)) ((w2.ext e5).ext e6) (x5.none m2 m3 hU2) upd_same (((hw.ext e5).app (Wd.rep body (SqT.of hr5))).ext e6)
end
end K02

set_option Elab.async false
set_option maxRecDepth 100000
set_option maxHeartbeats 4000000
namespace K02
open PySem PySem.Spec PyProof.Rows L2
theorem fl_str {hs : List Str} (h : ∀ x, x ∈ hs → nameS x = true) : ∀ v ∈ hs.map V.str, Fl v := fun v hv => by
  obtain ⟨x, hx, rfl⟩ := List.mem_map.mp hv
  exact name_ok (h x hx)
inductive Un
  | long (h : Str) | short (j : Nat) | rest | body
def Un.v : Un → List V
  | .long h => [.str "long", .str h]
  | .short j => [.str "short", .int (j : Int)]
  | .rest => [.str "rest"]
  | .body => [.str "body"]
def Un.ok : Un → Prop
  | .long h => nameS h = true
  | .short j => j < 4
  | _ => True
theorem ordN_ok {n : Nat} {s : St Str} (g : Good n s) : ∀ x, x ∈ ordN s → nameS x = true := by
  intro x hx
  obtain ⟨_, ns, ok, h⟩ := g
  unfold ordN at hx
  obtain ⟨i, hi, rfl⟩ := List.mem_map.mp hx
  have hil := ok.omem.mp hi
  rw [nm_at ok hil]
  exact h _ (List.getElem_mem hil)
section
variable {P : Program} {w : World} {K : PySem.W.Frag} {mg : Str → Option Value} {base : Heap} {A : Ad}
def spUnitD : Sp := fun vs H Q _ => ∃ (B c : Addr) (N : Nat), vs = [.ref B] ∧ BagAt H B c N ∧ N ≤ 800000 ∧ ∀ t (u : Un) H', BagAt H' B c (N + 2) → ExtM B H H' → H' t = some (.tup u.v) → u.ok → Q (.ref t) H'
theorem ok_unitD {f : Addr} {fd : FuncData} (F : Fun K "_law_unit" "_law_unit" s__law_unit f fd) (T : Txt K mg A) (O__law_draw : Own P w K mg base CX0 "_law_draw" 1 pm__law_draw spDraw) : FnOk P w K mg base CX0 2 f fd pm__law_unit spUnitD := by
  refine F.ok sc__law_unit (fun vs H Q E h => ?_) (fun cdv A' outer sh H vs Q E hr h => ?_)
  · obtain ⟨_, _, _, rfl, _⟩ := h
    rfl
  · obtain ⟨B, c, N, rfl, hB, hN, q⟩ := h
    refine ⟨_, pss_cons (ps_set (i := 1) sc__law_unit.nd rfl (Or.inl rfl) (pe_own O__law_draw (hr.mono (by decide)) pass0 (pa_cons (pv 0) (pa_cons (pe_int) pa_nil))))
      (pss_cons (ps_if (pt_cmpR op_eq (pv 1) (pe_int) (nomark _)) (pss_one (ps_ret (pe_tup (pa_cons (pe_str) (pa_cons (pe_ix ix_list (pe_lst (pa_cons (pe_str) (pa_cons (pe_str) (pa_cons (pe_str) pa_nil)))) (pe_own O__law_draw (hr.mono (by decide)) pass0 (pa_cons (pv 0) (pa_cons (pe_int) pa_nil))) (fun _ _ => rfl)) pa_nil))))) (pss_nil))
      (pss_cons (ps_if (pt_cmpR op_eq (pv 1) (pe_int) (nomark _)) (pss_one (ps_ret (pe_tup (pa_cons (pe_str) (pa_cons (pe_own O__law_draw (hr.mono (by decide)) pass0 (pa_cons (pv 0) (pa_cons (pe_int) pa_nil))) pa_nil))))) (pss_nil))
      (pss_one (ps_ret (pe_ix ix_list (pe_lst (pa_cons (pe_tup (pa_cons (pe_str) pa_nil)) (pa_cons (pe_tup (pa_cons (pe_str) pa_nil)) (pa_cons (pe_tup (pa_cons (pe_str) pa_nil)) pa_nil)))) (pe_op op_sub (pv 1) (pe_int)) (fun _ _ => rfl)))))), ?_⟩
    refine ⟨_, rfl, B, c, N, 5, rfl, hB, by omega, by omega, by omega, fun y H1 y0 y5 hB1 x1 => ?_⟩
    refine ⟨_, rfl, rfl, _, rfl, ?_⟩
    rw [dvi]
    by_cases h0 : y = 0
    · rw [decide_eq_true h0]
      refine iteT ⟨by show 3 ≤ sizeLine; decide, fun l hl => ?_⟩
      have e2 := Ext.upd (o := .lst [V.str "a", .str "zz", .str "longname"]) hl
      obtain ⟨lB, lc⟩ := hB1.new hl
      have hB2 := hB1.ext e2
      have hl2 : L2.upd H1 l (.lst [V.str "a", .str "zz", .str "longname"]) l = some (.lst [V.str "a", .str "zz", .str "longname"]) := upd_same
      generalize L2.upd H1 l (.lst [V.str "a", .str "zz", .str "longname"]) = H2 at e2 hB2 hl2 ⊢
      refine ⟨_, rfl, B, c, _, 3, rfl, hB2, by omega, by omega, by omega, fun y H3 y0 y3 hB3 x3 => ?_⟩
      obtain ⟨j, rfl⟩ : ∃ j : Nat, y = (j : Int) := ⟨y.toNat, by omega⟩
      have hl3 := x3 _ _ lB hl2
      obtain ⟨h, hh, hok⟩ : ∃ h : Str, ([V.str "a", .str "zz", .str "longname"] : List V)[j]? = some (.str h) ∧ nameS h = true := by
        rcases j with _ | _ | _ | j
        · exact ⟨_, rfl, by decide +kernel⟩
        · exact ⟨_, rfl, by decide +kernel⟩
        · exact ⟨_, rfl, by decide +kernel⟩
        · exact absurd y3 (by omega)
      refine ⟨l, _, (j : Int), .str h, rfl, rfl, SqL.of hl3, atI_nat hh, by show 2 ≤ sizeLine; decide, fun t ht => ?_⟩
      have e4 := Ext.upd (o := .tup [V.str "long", .str h]) ht
      exact q t (.long h) _ ((hB3.ext e4).le (by omega)) (((x1.trans (Ext.m e2)).trans x3).trans (Ext.m e4)) upd_same hok
    · rw [decide_eq_false h0]
      refine iteF ⟨_, rfl, rfl, _, rfl, ?_⟩
      rw [dvi]
      by_cases h1 : y = 1
      · rw [decide_eq_true h1]
        refine iteT ⟨_, rfl, B, c, _, 4, rfl, hB1, by omega, by omega, by omega, fun y H3 y0 y3 hB3 x3 => ?_⟩
        obtain ⟨j, rfl⟩ : ∃ j : Nat, y = (j : Int) := ⟨y.toNat, by omega⟩
        refine ⟨by show 2 ≤ sizeLine; decide, fun t ht => ?_⟩
        have e4 := Ext.upd (o := .tup [V.str "short", .int (j : Int)]) ht
        exact q t (.short j) _ ((hB3.ext e4).le (by omega)) ((x1.trans x3).trans (Ext.m e4)) upd_same (by show j < 4; omega)
      · rw [decide_eq_false h1]
        refine iteF ⟨by show 1 ≤ sizeLine; decide, fun t1 ht1 => ⟨by show 1 ≤ sizeLine; decide, fun t2 ht2 => ⟨by show 1 ≤ sizeLine; decide, fun t3 ht3 => ⟨by show 3 ≤ sizeLine; decide, fun l hl => ?_⟩⟩⟩⟩
        have e1 := Ext.upd (o := .tup [V.str "rest"]) ht1
        have e2 := Ext.upd (o := .tup [V.str "body"]) ht2
        have e3 := Ext.upd (o := .tup [V.str "body"]) ht3
        have e4 := Ext.upd (o := .lst [V.ref t1, .ref t2, .ref t3]) hl
        have g1 := ((e2.trans e3).trans e4) t1 _ upd_same
        have g2 := (e3.trans e4) t2 _ upd_same
        have g3 := e4 t3 _ upd_same
        have hl2 : L2.upd (L2.upd (L2.upd (L2.upd H1 t1 (.tup [V.str "rest"])) t2 (.tup [V.str "body"])) t3 (.tup [V.str "body"])) l (.lst [V.ref t1, .ref t2, .ref t3]) l = some (.lst [V.ref t1, .ref t2, .ref t3]) := upd_same
        have e5 := ((e1.trans e2).trans e3).trans e4
        generalize L2.upd (L2.upd (L2.upd (L2.upd H1 t1 (.tup [V.str "rest"])) t2 (.tup [V.str "body"])) t3 (.tup [V.str "body"])) l (.lst [V.ref t1, .ref t2, .ref t3]) = H2 at g1 g2 g3 hl2 e5 ⊢
        obtain ⟨j, hj⟩ : ∃ j : Nat, y - 2 = (j : Int) := ⟨(y - 2).toNat, by omega⟩
        obtain ⟨t, u, hu, ht, hok⟩ : ∃ t u, ([V.ref t1, .ref t2, .ref t3] : List V)[j]? = some (.ref t) ∧ H2 t = some (.tup (Un.v u)) ∧ u.ok := by
          rcases j with _ | _ | _ | j
          · exact ⟨_, .rest, rfl, g1, True.intro⟩
          · exact ⟨_, .body, rfl, g2, True.intro⟩
          · exact ⟨_, .body, rfl, g3, True.intro⟩
          · exact absurd y5 (by omega)
        refine ⟨_, rfl, _, _, rfl, rfl, l, _, (j : Int), .ref t, rfl, by show V.int (y - 2) = _; rw [hj], SqL.of hl2, atI_nat hu, ?_⟩
        exact q t u _ ((hB1.ext e5).le (by omega)) (x1.trans (Ext.m e5)) ht hok
def spHolds (K : PySem.W.Frag) (A : Ad) : Sp := fun vs H Q _ => ∃ (b O sl so : Addr) (n : Nat) (s : St Str), vs = [.ref b, .ref O] ∧ BkAt K A H b n s ∧ Good n s ∧ OwnAt H O sl so s ∧ ∀ H', Ext H H' → Q (.bl true) H'
theorem ok_holds {f : Addr} {fd : FuncData} (F : Fun K "_law_holds" "_law_holds" s__law_holds f fd) (T : Txt K mg A) (O_Book_held : OwnM P w K mg base CX0 A.Book "held" 1 pm_Book_held (spHeld K A)) (O_Book_oldest_first : OwnM P w K mg base CX0 A.Book "oldest_first" 1 pm_Book_oldest_first (spOldest K A)) : FnOk P w K mg base CX0 2 f fd pm__law_holds (spHolds K A) := by
  refine F.ok sc__law_holds (fun vs H Q E h => ?_) (fun cdv A' outer sh H vs Q E hr h => ?_)
  · obtain ⟨_, _, _, _, _, _, rfl, _⟩ := h
    rfl
  · obtain ⟨b, O, sl, so, n, s, rfl, hB, g, hO, q⟩ := h
    refine ⟨_, pss_one (ps_ret (pe_and (pe_callB call_isi (by rfl) T.n_isinstance (by decide +kernel) (pa_cons (pv 0) (pa_cons (pe_gcls T.Book.gC) pa_nil))) (pe_and (pe_cmpR (op_eqD hr.units) (pe_callTy call_list_of (by rfl) T.n_list (by decide +kernel) (pa_cons (pe_ownM0 O_Book_held (pv 0) T.Book.cl (hr.mono (by decide)) pass0) pa_nil)) (pe_ix ix_list (pv 1) (pe_int) (fun _ _ => rfl)) (nomark _)) (pe_one (pe_cmpR op_eq (pe_callB call_len_seq (by rfl) T.n_len (by decide +kernel) (pa_cons (pe_ownM0 O_Book_oldest_first (pv 0) T.Book.cl (hr.mono (by decide)) pass0) pa_nil)) (pe_callB call_len_seq (by rfl) T.n_len (by decide +kernel) (pa_cons (pe_ix ix_list (pv 1) (pe_int) (fun _ _ => rfl)) pa_nil)) (nomark _)))))), ?_⟩
    obtain ⟨dx, ps, po, hb, hs, ho⟩ := id hB
    refine ⟨_, rfl, _, .ref A.Book, .ref A.Book, .ref A.Book, true, rfl, .own _, T.Book.tyOf hb, T.Book.me, true, rfl, ?_⟩
    refine ⟨_, rfl, b, dx, _, rfl, hb, rfl, b, dx, ps, po, n, rfl, hb, ps, _, rfl, .inr hs.sqT, fun l hl => ?_⟩
    have e1 := Ext.upd (o := .lst (s.1.map sV)) hl
    obtain ⟨o1, o2, o3, _⟩ := hO.ext e1
    refine ⟨_, rfl, O, _, (0 : Int), .ref sl, rfl, rfl, SqL.of o1, atI_nat (j := 0) rfl, eqD_lst (SqL.of upd_same) (SqL.of o2) (fl_sV g) (fl_sV g) ?_⟩
    rw [eqv_sV, decide_eq_true rfl]
    refine ⟨true, rfl, ?_⟩
    obtain ⟨dx1, ps1, po1, hb1, _, _⟩ := hB.ext e1
    refine ⟨_, rfl, b, dx1, _, rfl, hb1, rfl, b, n, s, rfl, hB.ext e1, fun l2 hl2 => ?_⟩
    have e2 := Ext.upd (o := .lst (s.2.map nI)) hl2
    refine ⟨l2, _, rfl, .inl (SqL.of upd_same), _, rfl, O, _, (1 : Int), .ref so, rfl, rfl, SqL.of (e2 _ _ o1), atI_nat (j := 1) rfl, so, _, rfl, .inl (SqL.of (e2 _ _ o3)), rfl, ?_⟩
    rw [dvi, List.length_map, List.length_map, ordN_len, decide_eq_true rfl]
    exact q _ (e1.trans e2)
def spSameO (K : PySem.W.Frag) (A : Ad) : Sp := fun vs H Q _ => ∃ (b O sl so : Addr) (n : Nat) (s : St Str), vs = [.ref b, .ref O] ∧ BkAt K A H b n s ∧ Good n s ∧ OwnAt H O sl so s ∧ ∀ H', Ext H H' → Q (.bl true) H'
theorem ok_sameO {f : Addr} {fd : FuncData} (F : Fun K "_law_same_order" "_law_same_order" s__law_same_order f fd) (T : Txt K mg A) (O_Book_held : OwnM P w K mg base CX0 A.Book "held" 1 pm_Book_held (spHeld K A)) (O_Book_oldest_first : OwnM P w K mg base CX0 A.Book "oldest_first" 1 pm_Book_oldest_first (spOldest K A)) : FnOk P w K mg base CX0 2 f fd pm__law_same_order (spSameO K A) := by
  refine F.ok sc__law_same_order (fun vs H Q E h => ?_) (fun cdv A' outer sh H vs Q E hr h => ?_)
  · obtain ⟨_, _, _, _, _, _, rfl, _⟩ := h
    rfl
  · obtain ⟨b, O, sl, so, n, s, rfl, hB, g, hO, q⟩ := h
    refine ⟨_, pss_one (ps_ret (pe_cmpR (op_eqD hr.units) (pe_lc (own := [("_law_place", 2)]) (g := gName 2) (by rfl) sc__law_same_order.nd (pi_list (pe_ownM0 O_Book_oldest_first (pv 0) T.Book.cl (hr.mono (by decide)) pass0)) (blkOk_by (own := [("_law_place", 2)]) (N := nm__law_same_order) (sc := defScope s__law_same_order) (by decide +kernel)) (fun _ _ _ _ _ => pg_name (i := 2) sc__law_same_order.nd rfl (Or.inl rfl)) (fun s1 H1 C1 cl fp => pts_nil) (fun s1 H1 C1 cl fp => pe_ix (ix_tupK (K := K) rfl) (pe_ownM0 O_Book_held (pv 0) T.Book.cl (hr.mono (by decide)) pass0) (pv 2) (fun _ _ => rfl))) (pe_ix ix_list (pv 1) (pe_int) (fun _ _ => rfl)) (nomark _))), ?_⟩
    obtain ⟨dx, ps, po, hb, hs, ho⟩ := id hB
    obtain ⟨_, ns, ok, _⟩ := id g
    refine ⟨_, rfl, b, dx, _, rfl, hb, rfl, b, n, s, rfl, hB, fun l hl => ?_⟩
    have e1 := Ext.upd (o := .lst (s.2.map nI)) hl
    have hl1 : L2.upd H l (.lst (s.2.map nI)) l = some (.lst (s.2.map nI)) := upd_same
    generalize L2.upd H l (.lst (s.2.map nI)) = H1 at e1 hl1 ⊢
    have h4 : s.2.length ≤ 4 := by
      rw [ok.olen]
      have := ok.le
      have := g.1
      omega
    refine ⟨l, rfl, ⟨_, SqL.of hl1⟩, fun C hC => ?_⟩
    refine lc_list (xs := s.2.map nI) (fun m H' => Ext H1 H' ∧ H' C = some (.lst (((s.2.take m).map (nmO s.1)).map V.str))) ⟨Ext.upd hC, upd_same⟩ (fun m H' _ pv => SqL.of (pv.1 _ _ hl1)) (fun m x H' hx pv => ?_) (fun H' pv => ?_)
    · obtain ⟨e2, hC2⟩ := pv
      rw [List.getElem?_map] at hx
      obtain ⟨i, hi, rfl⟩ := Option.map_eq_some_iff.mp hx
      have hin := ok.omem.mp (List.mem_of_getElem? hi)
      have e02 := e1.trans e2
      have hnm : (s.1.map sV)[i]? = some (.str (nmO s.1 i)) := by
        rw [List.getElem?_map, ok.get hin, nm_at ok hin]
        rfl
      refine ⟨rfl, _, rfl, b, dx, _, rfl, e02 _ _ hb, rfl, b, dx, ps, po, n, rfl, e02 _ _ hb, _, rfl, ps, _, (i : Int), _, rfl, rfl, (hs.ext e02).sqT, atI_nat hnm, ?_⟩
      refine ⟨_, hC2, small_sz ?_, ext_mut e2 hC, ?_⟩
      · rw [List.length_map, List.length_map, List.length_take]
        omega
      · rw [upd_same, take_snoc hi, List.map_append, List.map_append]
        rfl
    · obtain ⟨e2, hC2⟩ := pv
      rw [List.length_map, List.take_length] at hC2
      obtain ⟨o1, o2, o3, _⟩ := hO.ext (e1.trans e2)
      refine ⟨_, rfl, O, _, (1 : Int), .ref so, rfl, rfl, SqL.of o1, atI_nat (j := 1) rfl, eqD_lst (SqL.of hC2) (SqL.of o3) (fl_str (ordN_ok g)) (fl_str (ordN_ok g)) ?_⟩
      rw [show (s.2.map (nmO s.1)) = ordN s from rfl, eqv_same (fl_str (ordN_ok g))]
      exact q _ (e1.trans e2)
end
end K02

set_option Elab.async false
set_option maxRecDepth 100000
set_option maxHeartbeats 4000000
namespace K02
open PySem PySem.Spec PyProof.Rows L2
section
variable {P : Program} {w : World} {K : PySem.W.Frag} {mg : Str → Option Value} {base : Heap} {A : Ad}
def tbRef (K : PySem.W.Frag) (A : Ad) (W : WX) : TS := tIfS (tTest (tOp rEq (tVar 0) (tC (.int 0)))) (tDrop (tCallS (spWritten K A) (WE W) (tCons (tVar 1) (tCons (tVar 2) (tCons (tVar 3) tNil))))) (tDrop (tCallS (spReadL K A) (WE W) (tCons (tVar 1) (tCons (tVar 2) tNil))))
def tsX (C : Addr) (wd f : Str) : SuT := fun a cls d => tAsg (tTup (tCons (tC (.str wd)) (tCons (tXf a cls d C f (tVar 5)) tNil))) (gName 4)
def tsL (A : Ad) : SuT := tsX A.BadLetter "letter" "spot"
def tsP (A : Ad) : SuT := tsX A.BadPart "part" "part"
def tsU (A : Ad) : SuT := tsX A.BadUnits "units" "value"
/-- what is refused, and how -/
def RefC (K : PySem.W.Frag) (A : Ad) (H : Hp) (y : Int) (v u c : V) (wd : Str) (x : V) : Prop :=
  (y = 0 ∧ ∃ d dc, Dp K H v d ∧ SmL d ∧ Dp K H c dc ∧ ((letterD d = false ∧ wd = "letter" ∧ x = .non) ∨ (letterD d = true ∧ (∃ d', Dp K H u d') ∧ wd = "part" ∧ x = .str "book") ∨ (letterD d = true ∧ (∃ b n s, u = .ref b ∧ BkAt K A H b n s ∧ Good n s) ∧ betD dc 2 9 = false ∧ wd = "part" ∧ x = .str "long_cost")))
  ∨ (y = 1 ∧ ∃ d, Dp K H v d ∧ (∀ ds, d = .tuple ds → ds.length ≤ 1000 ∧ ∀ x ∈ ds, SmD (sndD x) ∧ SeqAt.shaped x = true) ∧ ((unitsD d = false ∧ wd = "units" ∧ x = v) ∨ (unitsD d = true ∧ (∃ d', Dp K H u d') ∧ wd = "part" ∧ x = .str "book")))
def spRefd (K : PySem.W.Frag) (A : Ad) : Sp := fun vs H Q _ => ∃ (y : Int) (v u c : V) (wd : Str) (x : V), vs = [.int y, v, u, c] ∧ RefC K A H y v u c wd x ∧ ∀ t H', Ext H H' → H' t = some (.tup [.str wd, x]) → Q (.ref t) H'
theorem ok_refd {f : Addr} {fd : FuncData} (F : Fun K "_law_refused" "_law_refused" s__law_refused f fd) (T : Txt K mg A) (O_written : Own P w K mg base (L2.CX P w) "written" 8 pm_written (spWritten K A)) (O_read_letter : Own P w K mg base (L2.CX P w) "read_letter" 8 pm_read_letter (spReadL K A)) : FnOk P w K mg base CX0 9 f fd pm__law_refused (spRefd K A) := by
  refine F.ok sc__law_refused (fun vs H Q E h => ?_) (fun cdv A' outer sh H vs Q E hr h => ?_)
  · obtain ⟨_, _, _, _, _, _, rfl, _⟩ := h
    rfl
  · obtain ⟨y, v, u, c, wd, x, rfl, hR, q⟩ := h
    refine ⟨_, pss_cons (ps_set (i := 4) sc__law_refused.nd rfl (Or.inl rfl) (pe_non))
      (pss_cons (ps_try_manyA (tb := tbRef K A) (l := [(.ref A.BadLetter, 5, tsL A), (.ref A.BadPart, 5, tsP A), (.ref A.BadUnits, 5, tsU A)]) (Wo := fun _ _ _ _ => False) rfl rfl sc__law_refused.nd takes0
        (fun W pn xe tk _ => pss_one (ps_if (pt_cmpR op_eq (pv 0) (pe_int) (nomark _)) (pss_one (ps_expr (by exact (pe_ownS O_written (hr.mono (by decide)) tk (pa_cons (pv 1) (pa_cons (pv 2) (pa_cons (pv 3) pa_nil))))))) (pss_one (ps_expr (by exact (pe_ownS O_read_letter (hr.mono (by decide)) tk (pa_cons (pv 1) (pa_cons (pv 2) pa_nil))))))))
        (.cons rfl rfl ⟨rfl, by decide, Or.inl T.BadLetter.gC⟩ (fun a oe cls d pn hz hf => pss_one (ps_set (i := 4) sc__law_refused.nd rfl (Or.inl rfl) (pe_tup (pa_cons pe_str (pa_cons (by exact (pe_xf ⟨T.BadLetter.ec.hg, T.BadLetter.ec.hk, T.BadLetter.ec.hs, T.BadLetter.ec.hd⟩ T.BadLetter.noA hz hf (pv 5))) pa_nil)))))
        (.cons rfl rfl ⟨rfl, by decide, Or.inl T.BadPart.gC⟩ (fun a oe cls d pn hz hf => pss_one (ps_set (i := 4) sc__law_refused.nd rfl (Or.inl rfl) (pe_tup (pa_cons pe_str (pa_cons (by exact (pe_xf ⟨T.BadPart.ec.hg, T.BadPart.ec.hk, T.BadPart.ec.hs, T.BadPart.ec.hd⟩ T.BadPart.noA hz hf (pv 5))) pa_nil)))))
        (.cons rfl rfl ⟨rfl, by decide, Or.inl T.BadUnits.gC⟩ (fun a oe cls d pn hz hf => pss_one (ps_set (i := 4) sc__law_refused.nd rfl (Or.inl rfl) (pe_tup (pa_cons pe_str (pa_cons (by exact (pe_xf ⟨T.BadUnits.ec.hg, T.BadUnits.ec.hk, T.BadUnits.ec.hs, T.BadUnits.ec.hd⟩ T.BadUnits.noA hz hf (pv 5))) pa_nil))))) .nil))))
      (pss_one (ps_ret (pv 4)))), ?_⟩
    have fin : ∀ (f : Str) (H' : Hp) (e : Addr), Ext H H' → H' e = none → ∀ t, L2.upd H' e (.xd [(f, x)]) t = none → Q (.ref t) (L2.upd (L2.upd H' e (.xd [(f, x)])) t (.tup [V.str wd, x])) := fun f H' e e1 he t ht =>
      q t _ ((e1.trans (Ext.upd he)).trans (Ext.upd ht)) upd_same
    rcases hR with ⟨rfl, d, dc, hv, hs, hc, h3⟩ | ⟨rfl, d, hv, hs, h2⟩
    · refine ⟨_, rfl, rfl, _, rfl, iteT ⟨_, rfl, _, rfl, _, rfl, ⟨v, u, c, d, dc, rfl, hv, hs, hc, fun hl H' e' e he => ?_, fun hl => ?_⟩⟩⟩
      · rcases h3 with ⟨h1, rfl, rfl⟩ | ⟨h1, _⟩ | ⟨h1, _⟩
        · refine ⟨true, T.x_ll, fun _ a ha => ?_, (fun z => nomatch z)⟩
          exact ⟨_, rfl, rfl, rfl, e, _, .non, rfl, upd_same, rfl, by show 2 ≤ sizeLine; decide, fun t ht => ⟨_, rfl, fin _ H' e e' he t ht⟩⟩
        · rw [hl] at h1
          cases h1
        · rw [hl] at h1
          cases h1
      · rcases h3 with ⟨h1, _⟩ | ⟨_, ⟨d', hd'⟩, rfl, rfl⟩ | ⟨_, ⟨b, n, s, rfl, hB, g⟩, hb, rfl, rfl⟩
        · rw [hl] at h1
          cases h1
        · refine .inl ⟨d', hd', fun H' e' e he => ⟨false, T.x_pl, (fun z => nomatch z), fun _ => ⟨true, T.x_pp, fun _ a ha => ?_, (fun z => nomatch z)⟩⟩⟩
          exact ⟨_, rfl, rfl, rfl, e, _, .str "book", rfl, upd_same, rfl, by show 2 ≤ sizeLine; decide, fun t ht => ⟨_, rfl, fin _ H' e e' he t ht⟩⟩
        · refine .inr ⟨b, n, s, rfl, hB, g, fun _ H' e' e he => ⟨false, T.x_pl, (fun z => nomatch z), fun _ => ⟨true, T.x_pp, fun _ a ha => ?_, (fun z => nomatch z)⟩⟩, fun hs body cost _ hdc c2 c9 => ?_⟩
          · exact ⟨_, rfl, rfl, rfl, e, _, .str "long_cost", rfl, upd_same, rfl, by show 2 ≤ sizeLine; decide, fun t ht => ⟨_, rfl, fin _ H' e e' he t ht⟩⟩
          · exfalso
            rw [hdc, bet_int, decide_eq_true (show (2 : Int) ≤ (cost : Int) by omega), decide_eq_true (show (cost : Int) ≤ 9 by omega)] at hb
            cases hb
    · refine ⟨_, rfl, rfl, _, rfl, iteF ⟨_, rfl, _, rfl, ⟨v, u, d, rfl, hv, hs, fun hl H' e' e he => ?_, fun hl => ?_⟩⟩⟩
      · rcases h2 with ⟨h1, rfl, rfl⟩ | ⟨h1, _⟩
        · refine ⟨false, T.x_ul, (fun z => nomatch z), fun _ => ⟨false, T.x_up, (fun z => nomatch z), fun _ => ⟨true, T.x_uu, fun _ a ha => ?_, (fun z => nomatch z)⟩⟩⟩
          exact ⟨_, rfl, rfl, rfl, e, _, _, rfl, upd_same, rfl, by show 2 ≤ sizeLine; decide, fun t ht => ⟨_, rfl, fin _ H' e e' he t ht⟩⟩
        · rw [hl] at h1
          cases h1
      · rcases h2 with ⟨h1, _⟩ | ⟨_, ⟨d', hd'⟩, rfl, rfl⟩
        · rw [hl] at h1
          cases h1
        · refine .inl ⟨d', hd', fun H' e' e he => ⟨false, T.x_pl, (fun z => nomatch z), fun _ => ⟨true, T.x_pp, fun _ a ha => ?_, (fun z => nomatch z)⟩⟩⟩
          exact ⟨_, rfl, rfl, rfl, e, _, .str "book", rfl, upd_same, rfl, by show 2 ≤ sizeLine; decide, fun t ht => ⟨_, rfl, fin _ H' e e' he t ht⟩⟩
end
end K02

set_option Elab.async false
set_option maxRecDepth 100000
set_option maxHeartbeats 4000000
namespace K02
open PySem PySem.Spec PyProof.Rows L2
def smB : PyData → Bool | .str s => decide (s.length ≤ 1000) | _ => true
theorem smB_of {d : PyData} (h : smB d = true) : SmD d := by
  cases d <;> first | exact of_decide_eq_true (p := _ ≤ 1000) h | exact True.intro
def smLB : PyData → Bool | .tuple [.tuple hs, _] => hs.all smB | _ => true
theorem smLB_of {d : PyData} (h : smLB d = true) : SmL d := by
  intro hs b e x hx
  rw [e] at h
  exact smB_of (List.all_eq_true.mp h x hx)
def usB : PyData → Bool | .tuple ds => decide (ds.length ≤ 1000) && ds.all (fun x => smB (sndD x) && SeqAt.shaped x) | _ => true
theorem usB_of {d : PyData} (h : usB d = true) : ∀ ds, d = .tuple ds → ds.length ≤ 1000 ∧ ∀ x ∈ ds, SmD (sndD x) ∧ SeqAt.shaped x = true := by
  rintro ds rfl
  unfold usB at h
  rw [Bool.and_eq_true, decide_eq_true_eq] at h
  refine ⟨h.1, fun x hx => ?_⟩
  have := List.all_eq_true.mp h.2 x hx
  rw [Bool.and_eq_true] at this
  exact ⟨smB_of this.1, this.2⟩
def oddL : List PyData := [.none, .tuple [.tuple [.str "a"]], .tuple [.list [], .int 0], .tuple [.tuple [.str "a"], .int 61], .tuple [.tuple [.str "A"], .int 0], .tuple [.tuple [.str "a", .str "a", .str "a", .str "a", .str "a"], .int 0], .tuple [.str "a", .int 0], .tuple [.tuple [.str "a"], .bool true]]
theorem oddL_no : ∀ d ∈ oddL, letterD d = false ∧ smLB d = true := by decide +kernel
def oddU : List PyData := [.none, .list [], .tuple [.tuple [.str "body", .int 0]], .tuple [.tuple [.str "short", .int 4]], .tuple [.tuple [.str "long", .str "A"]], .tuple [.str "body"], .tuple [.tuple []], .tuple [.tuple [.str "rest"], .int 1]]
theorem oddU_no : ∀ d ∈ oddU, unitsD d = false ∧ usB d = true ∧ SeqAt.shaped (.tuple [.str "units", d]) = true ∧ PyData.eqv (.tuple [.str "units", d]) (.tuple [.str "units", d]) = true := by decide +kernel
section
variable {P : Program} {w : World} {K : PySem.W.Frag} {mg : Str → Option Value} {base : Heap} {A : Ad}
theorem dpT {H : Hp} {t : Addr} {xs : List V} {ds : List PyData} (ht : H t = none) (h : DpAll K H xs ds) : Dp K (L2.upd H t (.tup xs)) (.ref t) (.tuple ds) := .tup (SqT.of upd_same) (dps_ext (Ext.upd ht) _ _ h)
theorem dpL {H : Hp} {t : Addr} {xs : List V} {ds : List PyData} (ht : H t = none) (h : DpAll K H xs ds) : Dp K (L2.upd H t (.lst xs)) (.ref t) (.list ds) := .lst (SqL.of upd_same) (dps_ext (Ext.upd ht) _ _ h)
theorem sqt_one {H : Hp} {t : Addr} {x : Str} (h : Dp K H (.ref t) (.tuple [.str x])) : SqT K H t [.str x] := by
  obtain ⟨p, xs, ds, e, hx, ha, hd⟩ := dp_tup h rfl
  cases e
  cases hd
  cases ha with
  | cons a1 ha =>
    cases ha
    cases a1
    exact hx
def spOdd (K : PySem.W.Frag) (A : Ad) : Sp := fun vs H Q _ => ∃ (B c b : Addr) (N n : Nat) (s : St Str), vs = [.ref B, .ref b] ∧ BagAt H B c N ∧ N ≤ 800000 ∧ BkAt K A H b n s ∧ Good n s ∧ ∀ H', Q (.bl true) H'
theorem ok_odd {f : Addr} {fd : FuncData} (F : Fun K "_law_odd" "_law_odd" s__law_odd f fd) (T : Txt K mg A) (O__law_draw : Own P w K mg base CX0 "_law_draw" 1 pm__law_draw spDraw) (O__law_refused : Own P w K mg base CX0 "_law_refused" 9 pm__law_refused (spRefd K A)) : FnOk P w K mg base CX0 10 f fd pm__law_odd (spOdd K A) := by
  refine F.ok sc__law_odd (fun vs H Q E h => ?_) (fun cdv A' outer sh H vs Q E hr h => ?_)
  · obtain ⟨_, _, _, _, _, _, rfl, _⟩ := h
    rfl
  · obtain ⟨B, c, b, N, n, s, rfl, hBg, hN, hB, g, q⟩ := h
    refine ⟨_, pss_cons (ps_for PassesOwn.never rfl (pi_list (pe_lst (pa_cons (pe_non) (pa_cons (pe_tup (pa_cons (pe_tup (pa_cons (pe_str) pa_nil)) pa_nil)) (pa_cons (pe_tup (pa_cons (pe_lst (pa_nil)) (pa_cons (pe_int) pa_nil))) (pa_cons (pe_tup (pa_cons (pe_tup (pa_cons (pe_str) pa_nil)) (pa_cons (pe_int) pa_nil))) (pa_cons (pe_tup (pa_cons (pe_tup (pa_cons (pe_str) pa_nil)) (pa_cons (pe_int) pa_nil))) (pa_cons (pe_tup (pa_cons (pe_op op_repT (pe_tup (pa_cons (pe_str) pa_nil)) (pe_int)) (pa_cons (pe_int) pa_nil))) (pa_cons (pe_tup (pa_cons (pe_str) (pa_cons (pe_int) pa_nil))) (pa_cons (pe_tup (pa_cons (pe_tup (pa_cons (pe_str) pa_nil)) (pa_cons (pe_bl) pa_nil))) pa_nil)))))))))) (pg_name (i := 2) sc__law_odd.nd rfl (Or.inl rfl)) (pss_one (ps_if (pt_cmpR (op_neD hr.units) (pe_own O__law_refused (hr.mono (by decide)) pass0 (pa_cons (pe_int) (pa_cons (pv 2) (pa_cons (pv 1) (pa_cons (pe_int) pa_nil))))) (pe_tup (pa_cons (pe_str) (pa_cons (pe_non) pa_nil))) (nomark _)) (pss_one (ps_ret (pe_bl))) (pss_nil))))
      (pss_cons (ps_set (i := 3) sc__law_odd.nd rfl (Or.inl rfl) (pe_tup (pa_cons (pe_tup (pa_cons (pe_str) pa_nil)) (pa_cons (pe_int) pa_nil))))
      (pss_cons (ps_if (PW.pt (pw_or (pt_cmpR (op_neD hr.units) (pe_own O__law_refused (hr.mono (by decide)) pass0 (pa_cons (pe_int) (pa_cons (pv 3) (pa_cons (pe_non) (pa_cons (pe_int) pa_nil))))) (pe_tup (pa_cons (pe_str) (pa_cons (pe_str) pa_nil))) (nomark _)) (pw_or1 (pt_cmpR (op_neD hr.units) (pe_own O__law_refused (hr.mono (by decide)) pass0 (pa_cons (pe_int) (pa_cons (pe_tup (pa_nil)) (pa_cons (pe_str) (pa_cons (pe_int) pa_nil))))) (pe_tup (pa_cons (pe_str) (pa_cons (pe_str) pa_nil))) (nomark _))))) (pss_one (ps_ret (pe_bl))) (pss_nil))
      (pss_cons (ps_set (i := 4) sc__law_odd.nd rfl (Or.inl rfl) (pe_ix ix_list (pe_lst (pa_cons (pe_int) (pa_cons (pe_int) (pa_cons (pe_non) (pa_cons (pe_bl) pa_nil))))) (pe_own O__law_draw (hr.mono (by decide)) pass0 (pa_cons (pv 0) (pa_cons (pe_int) pa_nil))) (fun _ _ => rfl)))
      (pss_cons (ps_if (pt_cmpR (op_neD hr.units) (pe_own O__law_refused (hr.mono (by decide)) pass0 (pa_cons (pe_int) (pa_cons (pv 3) (pa_cons (pv 1) (pa_cons (pv 4) pa_nil))))) (pe_tup (pa_cons (pe_str) (pa_cons (pe_str) pa_nil))) (nomark _)) (pss_one (ps_ret (pe_bl))) (pss_nil))
      (pss_cons (ps_for PassesOwn.never rfl (pi_list (pe_lst (pa_cons (pe_non) (pa_cons (pe_lst (pa_nil)) (pa_cons (pe_tup (pa_cons (pe_tup (pa_cons (pe_str) (pa_cons (pe_int) pa_nil))) pa_nil)) (pa_cons (pe_tup (pa_cons (pe_tup (pa_cons (pe_str) (pa_cons (pe_int) pa_nil))) pa_nil)) (pa_cons (pe_tup (pa_cons (pe_tup (pa_cons (pe_str) (pa_cons (pe_str) pa_nil))) pa_nil)) (pa_cons (pe_tup (pa_cons (pe_str) pa_nil)) (pa_cons (pe_tup (pa_cons (pe_tup (pa_nil)) pa_nil)) (pa_cons (pe_tup (pa_cons (pe_tup (pa_cons (pe_str) pa_nil)) (pa_cons (pe_int) pa_nil))) pa_nil)))))))))) (pg_name (i := 2) sc__law_odd.nd rfl (Or.inl rfl)) (pss_one (ps_if (pt_cmpR (op_neD hr.units) (pe_own O__law_refused (hr.mono (by decide)) pass0 (pa_cons (pe_int) (pa_cons (pv 2) (pa_cons (pe_non) (pa_cons (pe_int) pa_nil))))) (pe_tup (pa_cons (pe_str) (pa_cons (pv 2) pa_nil))) (nomark _)) (pss_one (ps_ret (pe_bl))) (pss_nil))))
      (pss_one (ps_ret (pe_bl)))))))), ?_⟩
    refine ⟨by show 1 ≤ sizeLine; decide, fun t1 ht1 => ?_⟩
    have dt1 : Dp K (L2.upd H t1 (.tup [V.str "a"])) (.ref t1) (.tuple [.str "a"]) := dpT ht1 (.cons (.str _) .nil)
    have et1 := Ext.upd (o := .tup [V.str "a"]) ht1
    replace hBg := hBg.ext et1
    replace hB := hB.ext et1
    generalize L2.upd H t1 (.tup [V.str "a"]) = Gt1 at dt1 et1 hBg hB ⊢
    refine ⟨by show 1 ≤ sizeLine; decide, fun t2 ht2 => ?_⟩
    have dt2 : Dp K (L2.upd Gt1 t2 (.tup [V.ref t1])) (.ref t2) (.tuple [.tuple [.str "a"]]) := dpT ht2 (.cons dt1 .nil)
    have et2 := Ext.upd (o := .tup [V.ref t1]) ht2
    replace dt1 := dp_ext et2 _ _ dt1
    replace hBg := hBg.ext et2
    replace hB := hB.ext et2
    generalize L2.upd Gt1 t2 (.tup [V.ref t1]) = Gt2 at dt1 dt2 et2 hBg hB ⊢
    refine ⟨by show 0 ≤ sizeLine; decide, fun t3 ht3 => ?_⟩
    have dt3 : Dp K (L2.upd Gt2 t3 (.lst [])) (.ref t3) (.list []) := dpL ht3 .nil
    have et3 := Ext.upd (o := .lst []) ht3
    replace dt1 := dp_ext et3 _ _ dt1
    replace dt2 := dp_ext et3 _ _ dt2
    replace hBg := hBg.ext et3
    replace hB := hB.ext et3
    generalize L2.upd Gt2 t3 (.lst []) = Gt3 at dt1 dt2 dt3 et3 hBg hB ⊢
    refine ⟨by show 2 ≤ sizeLine; decide, fun t4 ht4 => ?_⟩
    have dt4 : Dp K (L2.upd Gt3 t4 (.tup [V.ref t3, .int 0])) (.ref t4) (.tuple [.list [], .int 0]) := dpT ht4 (.cons dt3 (.cons (.int _) .nil))
    have et4 := Ext.upd (o := .tup [V.ref t3, .int 0]) ht4
    replace dt1 := dp_ext et4 _ _ dt1
    replace dt2 := dp_ext et4 _ _ dt2
    replace dt3 := dp_ext et4 _ _ dt3
    replace hBg := hBg.ext et4
    replace hB := hB.ext et4
    generalize L2.upd Gt3 t4 (.tup [V.ref t3, .int 0]) = Gt4 at dt1 dt2 dt3 dt4 et4 hBg hB ⊢
    refine ⟨by show 1 ≤ sizeLine; decide, fun t5 ht5 => ?_⟩
    have dt5 : Dp K (L2.upd Gt4 t5 (.tup [V.str "a"])) (.ref t5) (.tuple [.str "a"]) := dpT ht5 (.cons (.str _) .nil)
    have et5 := Ext.upd (o := .tup [V.str "a"]) ht5
    replace dt1 := dp_ext et5 _ _ dt1
    replace dt2 := dp_ext et5 _ _ dt2
    replace dt3 := dp_ext et5 _ _ dt3
    replace dt4 := dp_ext et5 _ _ dt4
    replace hBg := hBg.ext et5
    replace hB := hB.ext et5
    generalize L2.upd Gt4 t5 (.tup [V.str "a"]) = Gt5 at dt1 dt2 dt3 dt4 dt5 et5 hBg hB ⊢
    refine ⟨by show 2 ≤ sizeLine; decide, fun t6 ht6 => ?_⟩
    have dt6 : Dp K (L2.upd Gt5 t6 (.tup [V.ref t5, .int 61])) (.ref t6) (.tuple [.tuple [.str "a"], .int 61]) := dpT ht6 (.cons dt5 (.cons (.int _) .nil))
    have et6 := Ext.upd (o := .tup [V.ref t5, .int 61]) ht6
    replace dt1 := dp_ext et6 _ _ dt1
    replace dt2 := dp_ext et6 _ _ dt2
    replace dt3 := dp_ext et6 _ _ dt3
    replace dt4 := dp_ext et6 _ _ dt4
    replace dt5 := dp_ext et6 _ _ dt5
    replace hBg := hBg.ext et6
    replace hB := hB.ext et6
    generalize L2.upd Gt5 t6 (.tup [V.ref t5, .int 61]) = Gt6 at dt1 dt2 dt3 dt4 dt5 dt6 et6 hBg hB ⊢
    refine ⟨by show 1 ≤ sizeLine; decide, fun t7 ht7 => ?_⟩
    have dt7 : Dp K (L2.upd Gt6 t7 (.tup [V.str "A"])) (.ref t7) (.tuple [.str "A"]) := dpT ht7 (.cons (.str _) .nil)
    have et7 := Ext.upd (o := .tup [V.str "A"]) ht7
    replace dt1 := dp_ext et7 _ _ dt1
    replace dt2 := dp_ext et7 _ _ dt2
    replace dt3 := dp_ext et7 _ _ dt3
    replace dt4 := dp_ext et7 _ _ dt4
    replace dt5 := dp_ext et7 _ _ dt5
    replace dt6 := dp_ext et7 _ _ dt6
    replace hBg := hBg.ext et7
    replace hB := hB.ext et7
    generalize L2.upd Gt6 t7 (.tup [V.str "A"]) = Gt7 at dt1 dt2 dt3 dt4 dt5 dt6 dt7 et7 hBg hB ⊢
    refine ⟨by show 2 ≤ sizeLine; decide, fun t8 ht8 => ?_⟩
    have dt8 : Dp K (L2.upd Gt7 t8 (.tup [V.ref t7, .int 0])) (.ref t8) (.tuple [.tuple [.str "A"], .int 0]) := dpT ht8 (.cons dt7 (.cons (.int _) .nil))
    have et8 := Ext.upd (o := .tup [V.ref t7, .int 0]) ht8
    replace dt1 := dp_ext et8 _ _ dt1
    replace dt2 := dp_ext et8 _ _ dt2
    replace dt3 := dp_ext et8 _ _ dt3
    replace dt4 := dp_ext et8 _ _ dt4
    replace dt5 := dp_ext et8 _ _ dt5
    replace dt6 := dp_ext et8 _ _ dt6
    replace dt7 := dp_ext et8 _ _ dt7
    replace hBg := hBg.ext et8
    replace hB := hB.ext et8
    generalize L2.upd Gt7 t8 (.tup [V.ref t7, .int 0]) = Gt8 at dt1 dt2 dt3 dt4 dt5 dt6 dt7 dt8 et8 hBg hB ⊢
    refine ⟨by show 1 ≤ sizeLine; decide, fun t9 ht9 => ?_⟩
    have dt9 : Dp K (L2.upd Gt8 t9 (.tup [V.str "a"])) (.ref t9) (.tuple [.str "a"]) := dpT ht9 (.cons (.str _) .nil)
    have et9 := Ext.upd (o := .tup [V.str "a"]) ht9
    replace dt1 := dp_ext et9 _ _ dt1
    replace dt2 := dp_ext et9 _ _ dt2
    replace dt3 := dp_ext et9 _ _ dt3
    replace dt4 := dp_ext et9 _ _ dt4
    replace dt5 := dp_ext et9 _ _ dt5
    replace dt6 := dp_ext et9 _ _ dt6
    replace dt7 := dp_ext et9 _ _ dt7
    replace dt8 := dp_ext et9 _ _ dt8
    replace hBg := hBg.ext et9
    replace hB := hB.ext et9
    generalize L2.upd Gt8 t9 (.tup [V.str "a"]) = Gt9 at dt1 dt2 dt3 dt4 dt5 dt6 dt7 dt8 dt9 et9 hBg hB ⊢
    refine ⟨t9, 5, [V.str "a"], rfl, rfl, sqt_one dt9, by decide, by omega, by omega, by decide, fun t10 ht10 => ?_⟩
    rw [show (List.replicate (Int.toNat 5) [V.str "a"]).flatten = [V.str "a", V.str "a", V.str "a", V.str "a", V.str "a"] from rfl]
    have dt10 : Dp K (L2.upd Gt9 t10 (.tup [V.str "a", .str "a", .str "a", .str "a", .str "a"])) (.ref t10) (.tuple [.str "a", .str "a", .str "a", .str "a", .str "a"]) := dpT ht10 (.cons (.str _) (.cons (.str _) (.cons (.str _) (.cons (.str _) (.cons (.str _) .nil)))))
    have et10 := Ext.upd (o := .tup [V.str "a", .str "a", .str "a", .str "a", .str "a"]) ht10
    replace dt1 := dp_ext et10 _ _ dt1
    replace dt2 := dp_ext et10 _ _ dt2
    replace dt3 := dp_ext et10 _ _ dt3
    replace dt4 := dp_ext et10 _ _ dt4
    replace dt5 := dp_ext et10 _ _ dt5
    replace dt6 := dp_ext et10 _ _ dt6
    replace dt7 := dp_ext et10 _ _ dt7
    replace dt8 := dp_ext et10 _ _ dt8
    replace dt9 := dp_ext et10 _ _ dt9
    replace hBg := hBg.ext et10
    replace hB := hB.ext et10
    generalize L2.upd Gt9 t10 (.tup [V.str "a", .str "a", .str "a", .str "a", .str "a"]) = Gt10 at dt1 dt2 dt3 dt4 dt5 dt6 dt7 dt8 dt9 dt10 et10 hBg hB ⊢
    refine ⟨by show 2 ≤ sizeLine; decide, fun t11 ht11 => ?_⟩
    have dt11 : Dp K (L2.upd Gt10 t11 (.tup [V.ref t10, .int 0])) (.ref t11) (.tuple [.tuple [.str "a", .str "a", .str "a", .str "a", .str "a"], .int 0]) := dpT ht11 (.cons dt10 (.cons (.int _) .nil))
    have et11 := Ext.upd (o := .tup [V.ref t10, .int 0]) ht11
    replace dt1 := dp_ext et11 _ _ dt1
    replace dt2 := dp_ext et11 _ _ dt2
    replace dt3 := dp_ext et11 _ _ dt3
    replace dt4 := dp_ext et11 _ _ dt4
    replace dt5 := dp_ext et11 _ _ dt5
    replace dt6 := dp_ext et11 _ _ dt6
    replace dt7 := dp_ext et11 _ _ dt7
    replace dt8 := dp_ext et11 _ _ dt8
    replace dt9 := dp_ext et11 _ _ dt9
    replace dt10 := dp_ext et11 _ _ dt10
    replace hBg := hBg.ext et11
    replace hB := hB.ext et11
    generalize L2.upd Gt10 t11 (.tup [V.ref t10, .int 0]) = Gt11 at dt1 dt2 dt3 dt4 dt5 dt6 dt7 dt8 dt9 dt10 dt11 et11 hBg hB ⊢
    refine ⟨by show 2 ≤ sizeLine; decide, fun t12 ht12 => ?_⟩
    have dt12 : Dp K (L2.upd Gt11 t12 (.tup [V.str "a", .int 0])) (.ref t12) (.tuple [.str "a", .int 0]) := dpT ht12 (.cons (.str _) (.cons (.int _) .nil))
    have et12 := Ext.upd (o := .tup [V.str "a", .int 0]) ht12
    replace dt1 := dp_ext et12 _ _ dt1
    replace dt2 := dp_ext et12 _ _ dt2
    replace dt3 := dp_ext et12 _ _ dt3
    replace dt4 := dp_ext et12 _ _ dt4
    replace dt5 := dp_ext et12 _ _ dt5
    replace dt6 := dp_ext et12 _ _ dt6
    replace dt7 := dp_ext et12 _ _ dt7
    replace dt8 := dp_ext et12 _ _ dt8
    replace dt9 := dp_ext et12 _ _ dt9
    replace dt10 := dp_ext et12 _ _ dt10
    replace dt11 := dp_ext et12 _ _ dt11
    replace hBg := hBg.ext et12
    replace hB := hB.ext et12
    generalize L2.upd Gt11 t12 (.tup [V.str "a", .int 0]) = Gt12 at dt1 dt2 dt3 dt4 dt5 dt6 dt7 dt8 dt9 dt10 dt11 dt12 et12 hBg hB ⊢
    refine ⟨by show 1 ≤ sizeLine; decide, fun t13 ht13 => ?_⟩
    have dt13 : Dp K (L2.upd Gt12 t13 (.tup [V.str "a"])) (.ref t13) (.tuple [.str "a"]) := dpT ht13 (.cons (.str _) .nil)
    have et13 := Ext.upd (o := .tup [V.str "a"]) ht13
    replace dt1 := dp_ext et13 _ _ dt1
    replace dt2 := dp_ext et13 _ _ dt2
    replace dt3 := dp_ext et13 _ _ dt3
    replace dt4 := dp_ext et13 _ _ dt4
    replace dt5 := dp_ext et13 _ _ dt5
    replace dt6 := dp_ext et13 _ _ dt6
    replace dt7 := dp_ext et13 _ _ dt7
    replace dt8 := dp_ext et13 _ _ dt8
    replace dt9 := dp_ext et13 _ _ dt9
    replace dt10 := dp_ext et13 _ _ dt10
    replace dt11 := dp_ext et13 _ _ dt11
    replace dt12 := dp_ext et13 _ _ dt12
    replace hBg := hBg.ext et13
    replace hB := hB.ext et13
    generalize L2.upd Gt12 t13 (.tup [V.str "a"]) = Gt13 at dt1 dt2 dt3 dt4 dt5 dt6 dt7 dt8 dt9 dt10 dt11 dt12 dt13 et13 hBg hB ⊢
    refine ⟨by show 2 ≤ sizeLine; decide, fun t14 ht14 => ?_⟩
    have dt14 : Dp K (L2.upd Gt13 t14 (.tup [V.ref t13, .bl true])) (.ref t14) (.tuple [.tuple [.str "a"], .bool true]) := dpT ht14 (.cons dt13 (.cons (.bl _) .nil))
    have et14 := Ext.upd (o := .tup [V.ref t13, .bl true]) ht14
    replace dt1 := dp_ext et14 _ _ dt1
    replace dt2 := dp_ext et14 _ _ dt2
    replace dt3 := dp_ext et14 _ _ dt3
    replace dt4 := dp_ext et14 _ _ dt4
    replace dt5 := dp_ext et14 _ _ dt5
    replace dt6 := dp_ext et14 _ _ dt6
    replace dt7 := dp_ext et14 _ _ dt7
    replace dt8 := dp_ext et14 _ _ dt8
    replace dt9 := dp_ext et14 _ _ dt9
    replace dt10 := dp_ext et14 _ _ dt10
    replace dt11 := dp_ext et14 _ _ dt11
    replace dt12 := dp_ext et14 _ _ dt12
    replace dt13 := dp_ext et14 _ _ dt13
    replace hBg := hBg.ext et14
    replace hB := hB.ext et14
    generalize L2.upd Gt13 t14 (.tup [V.ref t13, .bl true]) = Gt14 at dt1 dt2 dt3 dt4 dt5 dt6 dt7 dt8 dt9 dt10 dt11 dt12 dt13 dt14 et14 hBg hB ⊢
    refine ⟨by show 8 ≤ sizeLine; decide, fun M hM => ?_⟩
    have hds : DpAll K Gt14 [V.non, .ref t2, .ref t4, .ref t6, .ref t8, .ref t11, .ref t12, .ref t14] oddL := (.cons .non (.cons dt2 (.cons dt4 (.cons dt6 (.cons dt8 (.cons dt11 (.cons dt12 (.cons dt14 .nil))))))))
    have eM := Ext.upd (o := .lst [V.non, .ref t2, .ref t4, .ref t6, .ref t8, .ref t11, .ref t12, .ref t14]) hM
    have hM1 : L2.upd Gt14 M (.lst [V.non, .ref t2, .ref t4, .ref t6, .ref t8, .ref t11, .ref t12, .ref t14]) M = some (.lst [V.non, .ref t2, .ref t4, .ref t6, .ref t8, .ref t11, .ref t12, .ref t14]) := upd_same
    replace hds := dps_ext eM _ _ hds
    replace hBg := hBg.ext eM
    replace hB := hB.ext eM
    generalize L2.upd Gt14 M (.lst [V.non, .ref t2, .ref t4, .ref t6, .ref t8, .ref t11, .ref t12, .ref t14]) = J1 at hds hBg hB hM1 ⊢
    generalize ([V.non, .ref t2, .ref t4, .ref t6, .ref t8, .ref t11, .ref t12, .ref t14] : List V) = xs1 at hds hM1 ⊢
    refine ⟨M, rfl, ⟨_, SqL.of hM1⟩, ?_⟩
    refine for_list (xs := xs1) (fun i σ' H' => Ext J1 H' ∧ ∃ o2, σ' = [some (.ref B), some (.ref b), o2, none, none]) ⟨Ext.rfl', _, rfl⟩ (fun i σ' H' _ pv => SqL.of (pv.1 _ _ hM1)) (fun i x σ' H' hx pv => ?_) (fun σ' H' pv => ?_)
    · obtain ⟨e, o2, rfl⟩ := pv
      obtain ⟨d, hd, hdv⟩ := dps_get (dps_ext e _ _ hds) hx
      obtain ⟨hno, hsm⟩ := oddL_no d (List.mem_of_getElem? hd)
      refine ⟨_, rfl, _, rfl, (0 : Int), x, .ref b, .int 2, "letter", .non, rfl, .inl ⟨rfl, d, .int 2, hdv, smLB_of hsm, .int _, .inl ⟨hno, rfl, rfl⟩⟩, fun t H2 e2 ht => ⟨by show 2 ≤ sizeLine; decide, fun t2 ht2 => ?_⟩⟩
      have e3 := Ext.upd (o := .tup [V.str "letter", .non]) ht2
      refine ⟨.tuple [.str "letter", .none], .tuple [.str "letter", .none], .tup (SqT.of (e3 _ _ ht)) (.cons (.str _) (.cons .non .nil)), .tup (SqT.of upd_same) (.cons (.str _) (.cons .non .nil)), by decide +kernel, by decide +kernel, _, rfl, ?_⟩
      rw [show PyData.eqv (.tuple [.str "letter", .none]) (.tuple [.str "letter", .none]) = true by decide +kernel]
      exact iteF ⟨(e.trans e2).trans e3, _, rfl⟩
    · obtain ⟨e, o2, rfl⟩ := pv
      replace hBg := hBg.ext e
      replace hB := hB.ext e
      clear hds hM1 e
      refine ⟨by show 1 ≤ sizeLine; decide, fun g1 hg1 => ⟨by show 2 ≤ sizeLine; decide, fun gd hgd => ?_⟩⟩
      have eg := (Ext.upd (o := .tup [V.str "a"]) hg1).trans (Ext.upd (o := .tup [V.ref g1, .int 1]) hgd)
      have hgood : Dp K (L2.upd (L2.upd H' g1 (.tup [V.str "a"])) gd (.tup [V.ref g1, .int 1])) (.ref gd) (.tuple [.tuple [.str "a"], .int 1]) := dpT hgd (.cons (dpT hg1 (.cons (.str _) .nil)) (.cons (.int _) .nil))
      replace hBg := hBg.ext eg
      replace hB := hB.ext eg
      generalize L2.upd (L2.upd H' g1 (.tup [V.str "a"])) gd (.tup [V.ref g1, .int 1]) = J2 at hgood hBg hB ⊢
      have gsm : smLB (.tuple [.tuple [.str "a"], .int 1]) = true := by decide +kernel
      have gyes : letterD (.tuple [.tuple [.str "a"], .int 1]) = true := by decide +kernel
      have eqr : ∀ x : Str, x = "book" ∨ x = "long_cost" → SeqAt.shaped (.tuple [.str "part", .str x]) = true ∧ PyData.eqv (.tuple [.str "part", .str x]) (.tuple [.str "part", .str x]) = true := fun x hx => by rcases hx with rfl | rfl <;> decide +kernel
      refine ⟨_, rfl, (0 : Int), .ref gd, .non, .int 1, "part", .str "book", rfl, .inl ⟨rfl, _, .int 1, hgood, smLB_of gsm, .int _, .inr (.inl ⟨gyes, ⟨.none, .non⟩, rfl, rfl⟩)⟩, fun t H2 e2 ht => ⟨by show 2 ≤ sizeLine; decide, fun t2 ht2 => ?_⟩⟩
      have e3 := Ext.upd (o := .tup [V.str "part", .str "book"]) ht2
      refine ⟨.tuple [.str "part", .str "book"], .tuple [.str "part", .str "book"], .tup (SqT.of (e3 _ _ ht)) (.cons (.str _) (.cons (.str _) .nil)), .tup (SqT.of upd_same) (.cons (.str _) (.cons (.str _) .nil)), (eqr _ (.inl rfl)).1, (eqr _ (.inl rfl)).1, _, rfl, ?_⟩
      rw [(eqr _ (.inl rfl)).2]
      have e23 := e2.trans e3
      replace hBg := hBg.ext e23
      replace hB := hB.ext e23
      replace hgood := dp_ext e23 _ _ hgood
      clear e23 ht
      generalize L2.upd H2 t2 (.tup [V.str "part", .str "book"]) = J3 at hgood hBg hB ⊢
      refine iteF ⟨by show 0 ≤ sizeLine; decide, fun z hz => ?_⟩
      have ez := Ext.upd (o := .tup []) hz
      have hz1 : Dp K (L2.upd J3 z (.tup [])) (.ref z) (.tuple []) := dpT hz .nil
      replace hBg := hBg.ext ez
      replace hB := hB.ext ez
      replace hgood := dp_ext ez _ _ hgood
      generalize L2.upd J3 z (.tup []) = J4 at hgood hBg hB hz1 ⊢
      refine ⟨(1 : Int), .ref z, .str "book", .int 0, "part", .str "book", rfl, .inr ⟨rfl, .tuple [], hz1, usB_of (by decide +kernel), .inr ⟨by decide +kernel, ⟨.str "book", .str _⟩, rfl, rfl⟩⟩, fun t H2 e2 ht => ⟨by show 2 ≤ sizeLine; decide, fun t2 ht2 => ?_⟩⟩
      have e3 := Ext.upd (o := .tup [V.str "part", .str "book"]) ht2
      refine ⟨.tuple [.str "part", .str "book"], .tuple [.str "part", .str "book"], .tup (SqT.of (e3 _ _ ht)) (.cons (.str _) (.cons (.str _) .nil)), .tup (SqT.of upd_same) (.cons (.str _) (.cons (.str _) .nil)), (eqr _ (.inl rfl)).1, (eqr _ (.inl rfl)).1, _, rfl, ?_⟩
      rw [(eqr _ (.inl rfl)).2]
      have e23 := e2.trans e3
      replace hBg := hBg.ext e23
      replace hB := hB.ext e23
      replace hgood := dp_ext e23 _ _ hgood
      clear e23 ht hz1
      generalize L2.upd H2 t2 (.tup [V.str "part", .str "book"]) = J5 at hgood hBg hB ⊢
      refine iteF ⟨by show 4 ≤ sizeLine; decide, fun l hl => ?_⟩
      have el := Ext.upd (o := .lst [V.int 1, .int 10, .non, .bl true]) hl
      have hl1 : L2.upd J5 l (.lst [V.int 1, .int 10, .non, .bl true]) l = some (.lst [V.int 1, .int 10, .non, .bl true]) := upd_same
      obtain ⟨lB, _⟩ := hBg.new hl
      replace hBg := hBg.ext el
      replace hB := hB.ext el
      have hg2 : ∃ a p1, V.ref gd = .ref a ∧ SqT K J5 a [.ref p1, .int 1] ∧ SqT K J5 p1 [.str "a"] := by
        obtain ⟨p, x, y, d1, d2, e1, e2', hp, hx, hy⟩ := tup_two hgood rfl
        cases e2'
        cases hy
        obtain ⟨p1, xs, ds, rfl, hx1, ha, he⟩ := dp_tup hx rfl
        cases he
        cases ha with
        | cons a1 ha =>
          cases ha
          cases a1
          exact ⟨p, p1, e1, hp, hx1⟩
      obtain ⟨ga, gp, ega, hga, hgp⟩ := hg2
      cases ega
      replace hga := hga.ext el
      replace hgp := hgp.ext el
      generalize L2.upd J5 l (.lst [V.int 1, .int 10, .non, .bl true]) = J6 at hBg hB hl1 hga hgp ⊢
      refine ⟨_, rfl, B, c, N, 4, rfl, hBg, by omega, by omega, by omega, fun y J7 y0 y4 hBg7 x7 => ?_⟩
      obtain ⟨j, rfl⟩ : ∃ j : Nat, y = (j : Int) := ⟨y.toNat, by omega⟩
      obtain ⟨cv, cd, hcv, hcd, hcb⟩ : ∃ cv cd, ([V.int 1, .int 10, .non, .bl true] : List V)[j]? = some cv ∧ Dp K J7 cv cd ∧ betD cd 2 9 = false := by
        rcases j with _ | _ | _ | _ | j
        · exact ⟨_, .int 1, rfl, .int _, by decide⟩
        · exact ⟨_, .int 10, rfl, .int _, by decide⟩
        · exact ⟨_, .none, rfl, .non, by decide⟩
        · exact ⟨_, .bool true, rfl, .bl _, by decide⟩
        · exact absurd y4 (by omega)
      have kn := x7.kn hBg
      have hgood7 : Dp K J7 (.ref gd) (.tuple [.tuple [.str "a"], .int 1]) := .tup (kn.sqT hga) (.cons (.tup (kn.sqT hgp) (.cons (.str _) .nil)) (.cons (.int _) .nil))
      have hB7 := kn.bk hB
      refine ⟨l, _, (j : Int), cv, rfl, rfl, SqL.of (x7 _ _ lB hl1), atI_nat hcv, ?_⟩
      refine ⟨_, rfl, _, rfl, _, rfl, (0 : Int), .ref gd, .ref b, cv, "part", .str "long_cost", rfl, .inl ⟨rfl, _, cd, hgood7, smLB_of gsm, hcd, .inr (.inr ⟨gyes, ⟨b, n, s, rfl, hB7, g⟩, hcb, rfl, rfl⟩)⟩, fun t H2 e2 ht => ⟨by show 2 ≤ sizeLine; decide, fun t2 ht2 => ?_⟩⟩
      have e3 := Ext.upd (o := .tup [V.str "part", .str "long_cost"]) ht2
      refine ⟨.tuple [.str "part", .str "long_cost"], .tuple [.str "part", .str "long_cost"], .tup (SqT.of (e3 _ _ ht)) (.cons (.str _) (.cons (.str _) .nil)), .tup (SqT.of upd_same) (.cons (.str _) (.cons (.str _) .nil)), (eqr _ (.inr rfl)).1, (eqr _ (.inr rfl)).1, _, rfl, ?_⟩
      rw [(eqr _ (.inr rfl)).2]
      clear hBg hB hga hgp hl1 hgood hBg7 x7 kn hgood7 hB7 ht
      generalize L2.upd H2 t2 (.tup [V.str "part", .str "long_cost"]) = J8 at ⊢
      refine iteF ?_
      refine ⟨by show 0 ≤ sizeLine; decide, fun u1 hu1 => ?_⟩
      have du1 : Dp K (L2.upd J8 u1 (.lst [])) (.ref u1) (.list []) := dpL hu1 .nil
      have eu1 := Ext.upd (o := .lst []) hu1
      generalize L2.upd J8 u1 (.lst []) = Gu1 at du1 eu1  ⊢
      refine ⟨by show 2 ≤ sizeLine; decide, fun u2 hu2 => ?_⟩
      have du2 : Dp K (L2.upd Gu1 u2 (.tup [V.str "body", .int 0])) (.ref u2) (.tuple [.str "body", .int 0]) := dpT hu2 (.cons (.str _) (.cons (.int _) .nil))
      have eu2 := Ext.upd (o := .tup [V.str "body", .int 0]) hu2
      replace du1 := dp_ext eu2 _ _ du1
      generalize L2.upd Gu1 u2 (.tup [V.str "body", .int 0]) = Gu2 at du1 du2 eu2  ⊢
      refine ⟨by show 1 ≤ sizeLine; decide, fun u3 hu3 => ?_⟩
      have du3 : Dp K (L2.upd Gu2 u3 (.tup [V.ref u2])) (.ref u3) (.tuple [.tuple [.str "body", .int 0]]) := dpT hu3 (.cons du2 .nil)
      have eu3 := Ext.upd (o := .tup [V.ref u2]) hu3
      replace du1 := dp_ext eu3 _ _ du1
      replace du2 := dp_ext eu3 _ _ du2
      generalize L2.upd Gu2 u3 (.tup [V.ref u2]) = Gu3 at du1 du2 du3 eu3  ⊢
      refine ⟨by show 2 ≤ sizeLine; decide, fun u4 hu4 => ?_⟩
      have du4 : Dp K (L2.upd Gu3 u4 (.tup [V.str "short", .int 4])) (.ref u4) (.tuple [.str "short", .int 4]) := dpT hu4 (.cons (.str _) (.cons (.int _) .nil))
      have eu4 := Ext.upd (o := .tup [V.str "short", .int 4]) hu4
      replace du1 := dp_ext eu4 _ _ du1
      replace du2 := dp_ext eu4 _ _ du2
      replace du3 := dp_ext eu4 _ _ du3
      generalize L2.upd Gu3 u4 (.tup [V.str "short", .int 4]) = Gu4 at du1 du2 du3 du4 eu4  ⊢
      refine ⟨by show 1 ≤ sizeLine; decide, fun u5 hu5 => ?_⟩
      have du5 : Dp K (L2.upd Gu4 u5 (.tup [V.ref u4])) (.ref u5) (.tuple [.tuple [.str "short", .int 4]]) := dpT hu5 (.cons du4 .nil)
      have eu5 := Ext.upd (o := .tup [V.ref u4]) hu5
      replace du1 := dp_ext eu5 _ _ du1
      replace du2 := dp_ext eu5 _ _ du2
      replace du3 := dp_ext eu5 _ _ du3
      replace du4 := dp_ext eu5 _ _ du4
      generalize L2.upd Gu4 u5 (.tup [V.ref u4]) = Gu5 at du1 du2 du3 du4 du5 eu5  ⊢
      refine ⟨by show 2 ≤ sizeLine; decide, fun u6 hu6 => ?_⟩
      have du6 : Dp K (L2.upd Gu5 u6 (.tup [V.str "long", .str "A"])) (.ref u6) (.tuple [.str "long", .str "A"]) := dpT hu6 (.cons (.str _) (.cons (.str _) .nil))
      have eu6 := Ext.upd (o := .tup [V.str "long", .str "A"]) hu6
      replace du1 := dp_ext eu6 _ _ du1
      replace du2 := dp_ext eu6 _ _ du2
      replace du3 := dp_ext eu6 _ _ du3
      replace du4 := dp_ext eu6 _ _ du4
      replace du5 := dp_ext eu6 _ _ du5
      generalize L2.upd Gu5 u6 (.tup [V.str "long", .str "A"]) = Gu6 at du1 du2 du3 du4 du5 du6 eu6  ⊢
      refine ⟨by show 1 ≤ sizeLine; decide, fun u7 hu7 => ?_⟩
      have du7 : Dp K (L2.upd Gu6 u7 (.tup [V.ref u6])) (.ref u7) (.tuple [.tuple [.str "long", .str "A"]]) := dpT hu7 (.cons du6 .nil)
      have eu7 := Ext.upd (o := .tup [V.ref u6]) hu7
      replace du1 := dp_ext eu7 _ _ du1
      replace du2 := dp_ext eu7 _ _ du2
      replace du3 := dp_ext eu7 _ _ du3
      replace du4 := dp_ext eu7 _ _ du4
      replace du5 := dp_ext eu7 _ _ du5
      replace du6 := dp_ext eu7 _ _ du6
      generalize L2.upd Gu6 u7 (.tup [V.ref u6]) = Gu7 at du1 du2 du3 du4 du5 du6 du7 eu7  ⊢
      refine ⟨by show 1 ≤ sizeLine; decide, fun u8 hu8 => ?_⟩
      have du8 : Dp K (L2.upd Gu7 u8 (.tup [V.str "body"])) (.ref u8) (.tuple [.str "body"]) := dpT hu8 (.cons (.str _) .nil)
      have eu8 := Ext.upd (o := .tup [V.str "body"]) hu8
      replace du1 := dp_ext eu8 _ _ du1
      replace du2 := dp_ext eu8 _ _ du2
      replace du3 := dp_ext eu8 _ _ du3
      replace du4 := dp_ext eu8 _ _ du4
      replace du5 := dp_ext eu8 _ _ du5
      replace du6 := dp_ext eu8 _ _ du6
      replace du7 := dp_ext eu8 _ _ du7
      generalize L2.upd Gu7 u8 (.tup [V.str "body"]) = Gu8 at du1 du2 du3 du4 du5 du6 du7 du8 eu8  ⊢
      refine ⟨by show 0 ≤ sizeLine; decide, fun u9 hu9 => ?_⟩
      have du9 : Dp K (L2.upd Gu8 u9 (.tup [])) (.ref u9) (.tuple []) := dpT hu9 .nil
      have eu9 := Ext.upd (o := .tup []) hu9
      replace du1 := dp_ext eu9 _ _ du1
      replace du2 := dp_ext eu9 _ _ du2
      replace du3 := dp_ext eu9 _ _ du3
      replace du4 := dp_ext eu9 _ _ du4
      replace du5 := dp_ext eu9 _ _ du5
      replace du6 := dp_ext eu9 _ _ du6
      replace du7 := dp_ext eu9 _ _ du7
      replace du8 := dp_ext eu9 _ _ du8
      generalize L2.upd Gu8 u9 (.tup []) = Gu9 at du1 du2 du3 du4 du5 du6 du7 du8 du9 eu9  ⊢
      refine ⟨by show 1 ≤ sizeLine; decide, fun u10 hu10 => ?_⟩
      have du10 : Dp K (L2.upd Gu9 u10 (.tup [V.ref u9])) (.ref u10) (.tuple [.tuple []]) := dpT hu10 (.cons du9 .nil)
      have eu10 := Ext.upd (o := .tup [V.ref u9]) hu10
      replace du1 := dp_ext eu10 _ _ du1
      replace du2 := dp_ext eu10 _ _ du2
      replace du3 := dp_ext eu10 _ _ du3
      replace du4 := dp_ext eu10 _ _ du4
      replace du5 := dp_ext eu10 _ _ du5
      replace du6 := dp_ext eu10 _ _ du6
      replace du7 := dp_ext eu10 _ _ du7
      replace du8 := dp_ext eu10 _ _ du8
      replace du9 := dp_ext eu10 _ _ du9
      generalize L2.upd Gu9 u10 (.tup [V.ref u9]) = Gu10 at du1 du2 du3 du4 du5 du6 du7 du8 du9 du10 eu10  ⊢
      refine ⟨by show 1 ≤ sizeLine; decide, fun u11 hu11 => ?_⟩
      have du11 : Dp K (L2.upd Gu10 u11 (.tup [V.str "rest"])) (.ref u11) (.tuple [.str "rest"]) := dpT hu11 (.cons (.str _) .nil)
      have eu11 := Ext.upd (o := .tup [V.str "rest"]) hu11
      replace du1 := dp_ext eu11 _ _ du1
      replace du2 := dp_ext eu11 _ _ du2
      replace du3 := dp_ext eu11 _ _ du3
      replace du4 := dp_ext eu11 _ _ du4
      replace du5 := dp_ext eu11 _ _ du5
      replace du6 := dp_ext eu11 _ _ du6
      replace du7 := dp_ext eu11 _ _ du7
      replace du8 := dp_ext eu11 _ _ du8
      replace du9 := dp_ext eu11 _ _ du9
      replace du10 := dp_ext eu11 _ _ du10
      generalize L2.upd Gu10 u11 (.tup [V.str "rest"]) = Gu11 at du1 du2 du3 du4 du5 du6 du7 du8 du9 du10 du11 eu11  ⊢
      refine ⟨by show 2 ≤ sizeLine; decide, fun u12 hu12 => ?_⟩
      have du12 : Dp K (L2.upd Gu11 u12 (.tup [V.ref u11, .int 1])) (.ref u12) (.tuple [.tuple [.str "rest"], .int 1]) := dpT hu12 (.cons du11 (.cons (.int _) .nil))
      have eu12 := Ext.upd (o := .tup [V.ref u11, .int 1]) hu12
      replace du1 := dp_ext eu12 _ _ du1
      replace du2 := dp_ext eu12 _ _ du2
      replace du3 := dp_ext eu12 _ _ du3
      replace du4 := dp_ext eu12 _ _ du4
      replace du5 := dp_ext eu12 _ _ du5
      replace du6 := dp_ext eu12 _ _ du6
      replace du7 := dp_ext eu12 _ _ du7
      replace du8 := dp_ext eu12 _ _ du8
      replace du9 := dp_ext eu12 _ _ du9
      replace du10 := dp_ext eu12 _ _ du10
      replace du11 := dp_ext eu12 _ _ du11
      generalize L2.upd Gu11 u12 (.tup [V.ref u11, .int 1]) = Gu12 at du1 du2 du3 du4 du5 du6 du7 du8 du9 du10 du11 du12 eu12  ⊢
      refine ⟨by show 8 ≤ sizeLine; decide, fun M2 hM2 => ?_⟩
      have hds : DpAll K Gu12 [V.non, .ref u1, .ref u3, .ref u5, .ref u7, .ref u8, .ref u10, .ref u12] oddU := (.cons .non (.cons du1 (.cons du3 (.cons du5 (.cons du7 (.cons du8 (.cons du10 (.cons du12 .nil))))))))
      have eM := Ext.upd (o := .lst [V.non, .ref u1, .ref u3, .ref u5, .ref u7, .ref u8, .ref u10, .ref u12]) hM2
      have hM1 : L2.upd Gu12 M2 (.lst [V.non, .ref u1, .ref u3, .ref u5, .ref u7, .ref u8, .ref u10, .ref u12]) M2 = some (.lst [V.non, .ref u1, .ref u3, .ref u5, .ref u7, .ref u8, .ref u10, .ref u12]) := upd_same
      replace hds := dps_ext eM _ _ hds
      generalize L2.upd Gu12 M2 (.lst [V.non, .ref u1, .ref u3, .ref u5, .ref u7, .ref u8, .ref u10, .ref u12]) = J9 at hds hM1 ⊢
      generalize ([V.non, .ref u1, .ref u3, .ref u5, .ref u7, .ref u8, .ref u10, .ref u12] : List V) = xs2 at hds hM1 ⊢
      refine ⟨M2, rfl, ⟨_, SqL.of hM1⟩, ?_⟩
      refine for_list (xs := xs2) (fun i σ' H' => Ext J9 H' ∧ ∃ o2, σ' = [some (.ref B), some (.ref b), o2, some (.ref gd), some cv]) ⟨Ext.rfl', _, rfl⟩ (fun i σ' H' _ pv => SqL.of (pv.1 _ _ hM1)) (fun i x σ' H' hx pv => ?_) (fun σ' H' pv => ?_)
      · obtain ⟨e, o2, rfl⟩ := pv
        obtain ⟨d, hd, hdv⟩ := dps_get (dps_ext e _ _ hds) hx
        obtain ⟨hno, hus, hsh, heq⟩ := oddU_no d (List.mem_of_getElem? hd)
        refine ⟨_, rfl, (1 : Int), x, .non, .int 0, "units", x, rfl, .inr ⟨rfl, d, hdv, usB_of hus, .inl ⟨hno, rfl, rfl⟩⟩, fun t H2 e2 ht => ⟨_, rfl, by show 2 ≤ sizeLine; decide, fun t2 ht2 => ?_⟩⟩
        have e3 := Ext.upd (o := .tup [V.str "units", x]) ht2
        have hd3 := dp_ext (e2.trans e3) _ _ hdv
        refine ⟨.tuple [.str "units", d], .tuple [.str "units", d], .tup (SqT.of (e3 _ _ ht)) (.cons (.str _) (.cons hd3 .nil)), .tup (SqT.of upd_same) (.cons (.str _) (.cons hd3 .nil)), hsh, hsh, _, rfl, ?_⟩
        rw [heq]
        exact iteF ⟨(e.trans e2).trans e3, _, rfl⟩
      · obtain ⟨e, o2, rfl⟩ := pv
        exact q _
end
end K02

set_option Elab.async false
set_option maxRecDepth 100000
set_option maxHeartbeats 4000000
namespace K02
open PySem PySem.Spec PyProof.Rows L2
def uP (u : Un) : PyData := tP u.v
def headO (n : Nat) (s : St Str) : Un → Option (Option Str)
  | .long h => some (some h)
  | .short j => some (if j < n then (s.1[j]?).join else none)
  | _ => none
def play (n : Nat) : St Str → List Un → List (Option Str) × St Str
  | s, [] => ([], s)
  | s, u :: us => match headO n s u with
    | none => play n s us
    | some o => (o :: (play n (stepO s o) us).1, (play n (stepO s o) us).2)
def Un.isBody : Un → Bool | .body => true | _ => false
theorem u_word {n : Nat} {s : St Str} {u : Un} (h : u.ok) : wordD (uP u) = (headO n s u).isSome ∧ ∀ o, headO n s u = some o → readD (uP u) n s = o := by
  cases u with
  | long x =>
    have hw : wordD (uP (.long x)) = true := h
    refine ⟨hw, fun o ho => ?_⟩
    cases ho
    unfold readD
    rw [if_pos hw]
    rfl
  | short j =>
    have hj : j < 4 := h
    have hw : wordD (uP (.short j)) = true := by
      show betD (.int (j : Int)) 0 3 = true
      rw [bet_int, decide_eq_true (show (0 : Int) ≤ (j : Int) by omega), decide_eq_true (show (j : Int) ≤ 3 by omega)]
      rfl
    refine ⟨hw, fun o ho => ?_⟩
    cases ho
    unfold readD
    rw [if_pos hw]
    show (if (j : Int) < (n : Int) then (s.1[(j : Int).toNat]?).join else none) = if j < n then (s.1[j]?).join else none
    rw [Int.toNat_natCast]
    by_cases hn : j < n
    · rw [if_pos hn, if_pos (by omega)]
    · rw [if_neg hn, if_neg (by omega)]
  | rest => exact ⟨show wordD (uP .rest) = false by decide +kernel, fun o ho => nomatch ho⟩
  | body => exact ⟨show wordD (uP .body) = false by decide +kernel, fun o ho => nomatch ho⟩
theorem read_play {n : Nat} : ∀ (us : List Un) (s : St Str), (∀ u ∈ us, u.ok) → readU n s (us.map uP) = play n s us
  | [], _, _ => rfl
  | u :: us, s, h => by
    have ih := fun s => read_play (n := n) us s fun x hx => h x (List.mem_cons_of_mem _ hx)
    obtain ⟨h1, h2⟩ := u_word (n := n) (s := s) (h u List.mem_cons_self)
    rw [List.map_cons, readU_cons, h1]
    show _ = match headO n s u with | none => play n s us | some o => (o :: (play n (stepO s o) us).1, (play n (stepO s o) us).2)
    cases ho : headO n s u with
    | none => exact (if_neg (by decide)).trans (ih s)
    | some o =>
      rw [h2 o ho]
      show (if true = true then _ else _) = _
      rw [if_pos rfl, ih]
theorem u_unit {u : Un} (h : u.ok) : unitD (uP u) = true := by
  unfold unitD
  cases u with
  | long x => rw [(u_word (n := 0) (s := emp 0) h).1]; exact (Bool.or_eq_true _ _).mpr (.inr ((Bool.or_eq_true _ _).mpr (.inr rfl)))
  | short j => rw [(u_word (n := 0) (s := emp 0) h).1]; exact (Bool.or_eq_true _ _).mpr (.inr ((Bool.or_eq_true _ _).mpr (.inr rfl)))
  | rest => decide +kernel
  | body => decide +kernel
theorem u_body {u : Un} : PyData.eqv (uP u) bodyD = u.isBody := by
  cases u with
  | long x =>
    show (PyData.eqv (.str "long") (.str "body") && PyData.eqvAll [.str x] []) = false
    exact Bool.and_false _
  | short j =>
    show (PyData.eqv (.str "short") (.str "body") && PyData.eqvAll [.int (j : Int)] []) = false
    exact Bool.and_false _
  | rest => decide +kernel
  | body => decide +kernel
theorem u_fl {u : Un} (h : u.ok) : ∀ v ∈ u.v, Fl v := by
  have fs : ∀ x : Str, PyData.strOk x = true → Fl (V.str x) := fun x hx => hx
  cases u with
  | long x =>
    intro v hv
    rcases List.mem_cons.mp hv with rfl | hv
    · exact fs _ (by decide +kernel)
    · rw [List.mem_singleton.mp hv]
      exact fs _ (name_ok h)
  | short j =>
    intro v hv
    rcases List.mem_cons.mp hv with rfl | hv
    · exact fs _ (by decide +kernel)
    · rw [List.mem_singleton.mp hv]
      trivial
  | rest =>
    intro v hv
    rw [List.mem_singleton.mp hv]
    exact fs _ (by decide +kernel)
  | body =>
    intro v hv
    rw [List.mem_singleton.mp hv]
    exact fs _ (by decide +kernel)
theorem u_sm {u : Un} (h : u.ok) : SmD (sndD (uP u)) := by
  cases u with
  | long x =>
    have := name_len h
    show x.length ≤ 1000
    omega
  | short j => exact True.intro
  | rest => exact True.intro
  | body => exact True.intro
theorem play_snoc {n : Nat} {s0 s : St Str} {us : List Un} {i : Nat} {u : Un} {os : List (Option Str)} (hu : us[i]? = some u) (h : play n s0 us = (os ++ (play n s (us.drop i)).1, (play n s (us.drop i)).2)) :
    (headO n s u = none → play n s0 us = (os ++ (play n s (us.drop (i + 1))).1, (play n s (us.drop (i + 1))).2)) ∧ ∀ o, headO n s u = some o → play n s0 us = ((os ++ [o]) ++ (play n (stepO s o) (us.drop (i + 1))).1, (play n (stepO s o) (us.drop (i + 1))).2) := by
  have hlt := List.getElem?_eq_some_iff.mp hu
  have hd : us.drop i = u :: us.drop (i + 1) := by rw [List.drop_eq_getElem_cons hlt.1, hlt.2]
  rw [hd] at h
  refine ⟨fun ho => ?_, fun o ho => ?_⟩
  · rw [h]
    have : play n s (u :: us.drop (i + 1)) = play n s (us.drop (i + 1)) := by
      show (match headO n s u with | none => _ | some o => _) = _
      rw [ho]
    rw [this]
  · rw [h]
    have : play n s (u :: us.drop (i + 1)) = (o :: (play n (stepO s o) (us.drop (i + 1))).1, (play n (stepO s o) (us.drop (i + 1))).2) := by
      show (match headO n s u with | none => _ | some o => _) = _
      rw [ho]
    rw [this, List.append_assoc]
    rfl
theorem fl_os {os : List (Option Str)} (h : ∀ o ∈ os, ∀ x, o = some x → nameS x = true) : ∀ v ∈ os.map sV, Fl v := by
  intro v hv
  obtain ⟨o, ho, rfl⟩ := List.mem_map.mp hv
  cases o with
  | none => trivial
  | some x => exact name_ok (h _ ho x rfl)
theorem held_name {n : Nat} {s : St Str} (g : Good n s) {j : Nat} {x : Str} (h : (s.1[j]?).join = some x) : nameS x = true := by
  obtain ⟨_, ns, ok, hs⟩ := g
  refine hs x (ok.mem.mp ?_)
  cases hq : s.1[j]? with
  | none => rw [hq] at h; cases h
  | some o =>
    rw [hq] at h
    have h' : o = some x := h
    rw [← h']
    exact List.mem_of_getElem? hq
theorem own_emp {n : Nat} : ordN (emp n : St Str) = [] := rfl
theorem good_emp {n : Nat} (h : n ≤ 4) : Good n (emp n) := ⟨h, [], ok_emp, fun x hx => nomatch hx⟩
/-- a letter's data, compared -/
theorem shp_let {vs : List V} (h : ∀ v ∈ vs, Fl v) (b : Nat) : SeqAt.shaped (.tuple [.tuple (vs.map pd), .int (b : Int)]) = true := by
  obtain ⟨a1, d1⟩ := lay_all h
  show ((PyData.canLayAll0 (vs.map pd) && true) && decide (max (PyData.depthAll (vs.map pd) + 1) 0 + 1 ≤ 64)) = true
  rw [a1, d1]
  decide
theorem eqv_let {vs : List V} (h : ∀ v ∈ vs, Fl v) (b : Nat) : PyData.eqv (.tuple [.tuple (vs.map pd), .int (b : Int)]) (.tuple [.tuple (vs.map pd), .int (b : Int)]) = true := by
  show (PyData.eqvAll (vs.map pd) (vs.map pd) && (((b : Int) == (b : Int)) && true)) = true
  rw [eqv_same h, beq_self_eq_true]
  rfl
end K02

set_option Elab.async false
set_option maxRecDepth 100000
set_option maxHeartbeats 4000000
namespace K02
open PySem PySem.Spec PyProof.Rows L2
section
variable {P : Program} {w : World} {K : PySem.W.Frag} {mg : Str → Option Value} {base : Heap} {A : Ad}
def spFree (K : PySem.W.Frag) : Sp := fun vs H Q _ => ∃ (B c : Addr) (N n : Nat), vs = [.ref B, .int (n : Int)] ∧ BagAt H B c N ∧ N ≤ 700000 ∧ n ≤ 4 ∧ ∀ H', BagAt H' B c (N + 30) → ExtM B H H' → Q (.bl true) H'
theorem wd_snoc {H : Hp} {ws : List V} {ts : List (List V)} {q : Addr} {t : List V} (h : Wd K H ws ts) (hq : SqT K H q t) : Wd K H (ws ++ [.ref q]) (ts ++ [t]) := h.app (Wd.one hq)
theorem ok_free {f : Addr} {fd : FuncData} (F : Fun K "_law_free" "_law_free" s__law_free f fd) (T : Txt K mg A) (O__law_draw : Own P w K mg base CX0 "_law_draw" 1 pm__law_draw spDraw) (O__law_unit : Own P w K mg base CX0 "_law_unit" 2 pm__law_unit spUnitD) (O__law_use : Own P w K mg base CX0 "_law_use" 1 pm__law_use spUse)
    (O_read_letter : Own P w K mg base (L2.CX P w) "read_letter" 8 pm_read_letter (spReadL K A)) (O_Book1 : OwnCD P w K mg base (L2.CX P w) "Book" A.Book 5 pm_Book_init (spBookInit K A) [.ref A.T0]) (O__law_holds : Own P w K mg base CX0 "_law_holds" 2 pm__law_holds (spHolds K A)) (O__law_same_order : Own P w K mg base CX0 "_law_same_order" 2 pm__law_same_order (spSameO K A)) : FnOk P w K mg base CX0 9 f fd pm__law_free (spFree K) := by
  refine F.ok sc__law_free (fun vs H Q E h => ?_) (fun cdv A' outer sh H vs Q E hr h => ?_)
  · obtain ⟨_, _, _, _, rfl, _⟩ := h
    rfl
  · obtain ⟨B, c, N, n, rfl, hB, hN, hn4, q⟩ := h
    refine ⟨_, pss_cons (ps_set (i := 2) sc__law_free.nd rfl (Or.inl rfl) (pe_callTy call_tuple_of (by rfl) T.n_tuple (by decide +kernel) (pa_cons (pe_lc (own := [("_law_k", 10)]) (g := gName 10) (by rfl) sc__law_free.nd (pi_range1 rfl T.n_range (pa_cons (pe_own O__law_draw (hr.mono (by decide)) pass0 (pa_cons (pv 0) (pa_cons (pe_int) pa_nil))) pa_nil)) (blkOk_by (own := [("_law_k", 10)]) (N := nm__law_free) (sc := defScope s__law_free) (by decide +kernel)) (fun _ _ _ _ _ => pg_name (i := 10) sc__law_free.nd rfl (Or.inl rfl)) (fun s1 H1 C1 cl fp => pts_nil) (fun s1 H1 C1 cl fp => pe_own O__law_unit (hr.mono (by decide)) pass0 (pa_cons (pv 0) pa_nil))) pa_nil)))
      (pss_cons (ps_set (i := 3) sc__law_free.nd rfl (Or.inl rfl) (pe_lst (pa_cons (pe_op op_rep (pe_lst (pa_cons (pe_non) pa_nil)) (pv 1)) (pa_cons (pe_lst (pa_nil)) pa_nil))))
      (pss_cons (ps_set (i := 4) sc__law_free.nd rfl (Or.inl rfl) (pe_lst (pa_nil)))
      (pss_cons (ps_for PassesOwn.never rfl (pi_tup (pv 2)) (pg_name (i := 5) sc__law_free.nd rfl (Or.inl rfl)) (pss_cons (ps_set (i := 6) sc__law_free.nd rfl (Or.inl rfl) (pe_non))
      (pss_cons (ps_if (pt_cmpR op_eq (pe_ix ix_tup (pv 5) (pe_int) (fun _ _ => rfl)) (pe_str) (nomark _)) (pss_one (ps_set (i := 6) sc__law_free.nd rfl (Or.inl rfl) (pe_ix ix_tup (pv 5) (pe_int) (fun _ _ => rfl)))) (pss_nil))
      (pss_cons (ps_if (PW.pt (pw_and (pt_cmpR op_eq (pe_ix ix_tup (pv 5) (pe_int) (fun _ _ => rfl)) (pe_str) (nomark _)) (pw_and1 (pt_cmpR op_lt (pe_ix ix_tup (pv 5) (pe_int) (fun _ _ => rfl)) (pv 1) (nomark _))))) (pss_one (ps_set (i := 6) sc__law_free.nd rfl (Or.inl rfl) (pe_ix ix_list (pe_ix ix_list (pv 3) (pe_int) (fun _ _ => rfl)) (pe_ix ix_tup (pv 5) (pe_int) (fun _ _ => rfl)) (fun _ _ => rfl)))) (pss_nil))
      (pss_cons (ps_if (pt_cmpR op_in_seq (pe_ix ix_tup (pv 5) (pe_int) (fun _ _ => rfl)) (pe_lst (pa_cons (pe_str) (pa_cons (pe_str) pa_nil))) (by with_unfolding_all rfl)) (pss_one (ps_expr (pe_bm PySem.F.plainAttrs_list PySem.F.slot_list_append PySem.F.type_list_append mt_append (pv 4) (pa_cons (pv 6) pa_nil)))) (pss_nil))
      (pss_one (ps_if (pt_cmpR op_notN (pv 6) (pe_non) (nomark _)) (pss_one (ps_expr (pe_own O__law_use (hr.mono (by decide)) pass0 (pa_cons (pv 3) (pa_cons (pv 6) pa_nil))))) (pss_nil))))))))
      (pss_cons (ps_asg (pe_own O_read_letter (hr.mono (by decide)) passL (pa_cons (pv 2) (pa_cons (pe_newD O_Book1 (hr.mono (by decide)) passL (pa_cons (pv 1) pa_nil)) pa_nil))) (pg_tup rfl (pgs_cons (pg_name (i := 7) sc__law_free.nd rfl (Or.inl rfl)) (pgs_cons (pg_name (i := 8) sc__law_free.nd rfl (Or.inl rfl)) (pgs_nil)))))
      (pss_cons (ps_set (i := 9) sc__law_free.nd rfl (Or.inl rfl) (pe_callB call_len_seq (by rfl) T.n_len (by decide +kernel) (pa_cons (pe_lc (own := [("_law_unit_here", 5)]) (g := gName 5) (by rfl) sc__law_free.nd (pi_tup (pv 2)) (blkOk_by (own := [("_law_unit_here", 5)]) (N := nm__law_free) (sc := defScope s__law_free) (by decide +kernel)) (fun _ _ _ _ _ => pg_name (i := 5) sc__law_free.nd rfl (Or.inl rfl)) (fun s1 H1 C1 cl fp => pts_one (pt_cmpR op_eq (pe_ix (ix_tupK (K := K) rfl) (pv 5) (pe_int) (fun _ _ => rfl)) (pe_str) (nomark _))) (fun s1 H1 C1 cl fp => pv 5)) pa_nil)))
      (pss_one (ps_ret (pe_and (pe_cmpR (op_eqD hr.units) (pv 7) (pe_tup (pa_cons (pe_callTy call_tuple_of (by rfl) T.n_tuple (by decide +kernel) (pa_cons (pv 4) pa_nil)) (pa_cons (pv 9) pa_nil))) (nomark _)) (pe_and (pe_own O__law_holds (hr.mono (by decide)) pass0 (pa_cons (pv 8) (pa_cons (pv 3) pa_nil))) (pe_one (pe_own O__law_same_order (hr.mono (by decide)) pass0 (pa_cons (pv 8) (pa_cons (pv 3) pa_nil))))))))))))), ?_⟩
    refine ⟨_, rfl, B, c, N, 10, rfl, hB, by omega, by omega, by omega, fun y H1 y0 y10 hB1 x1 => ⟨y, rfl, by omega, by omega, fun D hD => ?_⟩⟩
    obtain ⟨k, rfl⟩ : ∃ k : Nat, y = (k : Int) := ⟨y.toNat, by omega⟩
    obtain ⟨DB, Dc⟩ := hB1.new hD
    rw [Int.toNat_natCast]
    refine lc_range (fun i H' => ∃ (ws : List V) (us : List Un), H' D = some (.lst ws) ∧ us.length = i ∧ Wd K H' ws (us.map Un.v) ∧ (∀ u ∈ us, u.ok) ∧ BagAt H' B c (N + 1 + 2 * i) ∧ ExtM B H1 H') ⟨[], [], upd_same, rfl, Wd.nil, (fun u hu => absurd hu List.not_mem_nil), hB1.ext (Ext.upd hD), Ext.m (Ext.upd hD)⟩ (fun i H2 hi pv => ?_) (fun H2 pv => ?_)
    · obtain ⟨ws, us, hD2, hl, hw, hok, hB2, x2⟩ := pv
      refine ⟨rfl, _, rfl, B, c, _, rfl, hB2, by omega, fun t u H3 hB3 x3 ht hu => ?_⟩
      have hD3 := x3 _ _ DB hD2
      have kn := x3.kn hB2
      have hwl := hw.1
      rw [List.length_map] at hwl
      have tne : t ≠ D := fun e => by rw [e, hD3] at ht; cases ht
      have mt : ∀ x o, x ≠ D → H3 x = some o → L2.upd H3 D (.lst (ws ++ [.ref t])) x = some o := fun x o hx h => by
        rw [upd_ne hx]
        exact h
      refine ⟨_, hD3, small_sz (by omega), ws ++ [.ref t], us ++ [u], upd_same, by rw [List.length_append, hl]; rfl, ?_, ?_, hB3.upd DB Dc, ?_⟩
      · rw [List.map_append]
        exact ((kn.wd hw).mut hD3).app (Wd.one (SqT.of (mt _ _ tne ht)))
      · intro x hx
        rcases List.mem_append.mp hx with h | h
        · exact hok x h
        · rw [List.mem_singleton.mp h]
          exact hu
      · intro x o hx h
        exact mt x o (ne_of_none h hD) ((x2.trans x3) x o hx h)
    · obtain ⟨ws, us, hD2, hl, hw, hok, hB2, x2⟩ := pv
      have hwl := hw.1
      rw [List.length_map] at hwl
      refine ⟨D, _, rfl, .inl ⟨SqL.of hD2, fun t ht => ?_⟩⟩
      have e3 := Ext.upd (o := .tup ws) ht
      have ht3 : L2.upd H2 t (.tup ws) t = some (.tup ws) := upd_same
      have hB3 := hB2.ext e3
      have hw3 := hw.ext e3
      have x03 := (x1.trans x2).trans (Ext.m (st := B) e3)
      generalize L2.upd H2 t (.tup ws) = H3 at ht3 hB3 hw3 x03 ⊢
      clear hD2 hw hB2 x2 e3 ht x1 hB1 hD hB
      refine ⟨by show 1 ≤ sizeLine; decide, fun l0 hl0 => ⟨_, rfl, l0, _, _, rfl, rfl, upd_same, by omega, by omega, by show 1 * _ ≤ sizeLine; exact Nat.le_of_lt (small_sz (by omega)), fun sl hsl => ⟨by show 0 ≤ sizeLine; decide, fun so hso => ⟨by show 2 ≤ sizeLine; decide, fun O hO => ?_⟩⟩⟩⟩
      rw [flat_rep, Int.toNat_natCast] at hso hO ⊢
      have a1 := Ext.upd (o := .lst [V.non]) hl0
      have a2 := Ext.upd (o := .lst (List.replicate n V.non)) hsl
      have a3 := Ext.upd (o := .lst []) hso
      have a4 := Ext.upd (o := .lst [V.ref sl, .ref so]) hO
      have hne1 : sl ≠ so := ne_of_none (upd_same (o := HO.lst (List.replicate n V.non))) hso
      have hne2 : O ≠ sl := (ne_of_none (a3 _ _ (upd_same (o := HO.lst (List.replicate n V.non)))) hO).symm
      have hne3 : O ≠ so := (ne_of_none (upd_same (o := HO.lst [])) hO).symm
      have hOw : OwnAt (L2.upd (L2.upd (L2.upd (L2.upd H3 l0 (.lst [V.non])) sl (.lst (List.replicate n V.non))) so (.lst [])) O (.lst [V.ref sl, .ref so])) O sl so (emp n) := by
        refine ⟨upd_same, ?_, a4 _ _ upd_same, hne1, hne2, hne3⟩
        rw [(a3.trans a4) _ _ (upd_same (o := HO.lst (List.replicate n V.non)))]
        show _ = some (HO.lst ((List.replicate n (none : Option Str)).map sV))
        rw [List.map_replicate]
        rfl
      have e4 := ((a1.trans a2).trans a3).trans a4
      have ht4 := e4 _ _ ht3
      have hB4 := hB3.ext e4
      have hw4 := hw3.ext e4
      have x04 := x03.trans (Ext.m (st := B) e4)
      have hslB : sl ≠ B ∧ sl ≠ c := (hB3.ext a1).new hsl
      have hsoB : so ≠ B ∧ so ≠ c := ((hB3.ext a1).ext a2).new hso
      have hH3 : ∀ x o, H3 x = some o → x ≠ sl ∧ x ≠ so := fun x o h => ⟨ne_of_none (a1 _ _ h) hsl, ne_of_none ((a1.trans a2) _ _ h) hso⟩
      generalize L2.upd (L2.upd (L2.upd (L2.upd H3 l0 (.lst [V.non])) sl (.lst (List.replicate n V.non))) so (.lst [])) O (.lst [V.ref sl, .ref so]) = H4 at hOw e4 ht4 hB4 hw4 x04 ⊢
      clear a1 a2 a3 a4 hsl hso hO hl0
      refine ⟨by decide, fun L hL => ?_⟩
      obtain ⟨LO, Lsl, Lso⟩ := hOw.new hL
      have e5 := Ext.upd (o := .lst []) hL
      refine ⟨_, rfl, t, rfl, ⟨_, SqT.of (e5 _ _ ht4)⟩, ?_⟩
      refine for_it (walk_tup (xs := ws)) (fun i σ' H' => ∃ s' os o5 o6, σ' = [some (.ref B), some (.int (n : Int)), some (.ref t), some (.ref O), some (.ref L), o5, o6, none, none, none, none] ∧ ExtS sl so H4 H' ∧ OwnAt H' O sl so s' ∧ Good n s' ∧ H' L = some (.lst (os.map sV)) ∧ os.length ≤ i ∧ (∀ o ∈ os, ∀ x, o = some x → nameS x = true) ∧ play n (emp n) us = (os ++ (play n s' (us.drop i)).1, (play n s' (us.drop i)).2))
        ⟨emp n, [], _, _, rfl, Ext.s e5, hOw.ext e5, good_emp hn4, upd_same, Nat.le_refl _, (fun o ho => absurd ho List.not_mem_nil), rfl⟩ (fun i σ' H' _ pv => ?_) (fun i x σ' Hx H' hi pv hy => ?_) (fun σ' H' pv => ?_)
      · obtain ⟨_, _, _, _, _, x5, _⟩ := pv
        exact (hOw.kn x5).sqT (SqT.of ht4)
      · obtain ⟨s', os, o5, o6, rfl, x5, hO5, g5, hL5, hol, hnm, hpl⟩ := pv
        obtain ⟨rfl, hx⟩ := hy
        replace hx : ws[i]? = some x := hx
        have kn := hOw.kn x5
        obtain ⟨u, hu⟩ : ∃ u, us[i]? = some u := ⟨_, List.getElem?_eq_getElem (by have := (List.getElem?_eq_some_iff.mp hx).1; omega)⟩
        obtain ⟨p, rfl, hp⟩ := hw4.2 i x u.v hx (by rw [List.getElem?_map, hu]; rfl)
        replace hp := kn.sqT hp
        have huok := hok u (List.mem_of_getElem? hu)
        obtain ⟨pl1, pl2⟩ := play_snoc hu hpl
        have hil := (List.getElem?_eq_some_iff.mp hu).1
        obtain ⟨o1, o2, o3, _⟩ := id hO5
        have hlm : (os.map sV).length < sizeLine := small_sz (by rw [List.length_map]; omega)
        -- behind the list that is asked: what is appended, and the use
        have app : ∀ (Hx : Hp), Ext H' Hx → ∀ (o : Option Str), (∀ x, o = some x → nameS x = true) → headO n s' u = some o → ∃ Hy, Hy = L2.upd Hx L (.lst (os.map sV ++ [sV o])) ∧ Hx L = some (.lst (os.map sV)) ∧ ExtS sl so H4 Hy ∧ OwnAt Hy O sl so s' ∧ Hy L = some (.lst ((os ++ [o]).map sV)) ∧ (os ++ [o]).length ≤ i + 1 ∧ (∀ o' ∈ os ++ [o], ∀ x, o' = some x → nameS x = true) ∧ play n (emp n) us = ((os ++ [o]) ++ (play n (stepO s' o) (us.drop (i + 1))).1, (play n (stepO s' o) (us.drop (i + 1))).2) := fun Hx ex o ho1 ho2 => by
          refine ⟨_, rfl, ex _ _ hL5, (x5.trans (Ext.s ex)).mut hL, (hO5.ext ex).upd LO Lsl Lso, by rw [upd_same, List.map_append]; rfl, by rw [List.length_append]; show os.length + 1 ≤ i + 1; omega, fun o' ho' x hx' => ?_, pl2 o ho2⟩
          rcases List.mem_append.mp ho' with h | h
          · exact hnm o' h x hx'
          · rw [List.mem_singleton.mp h] at hx'
            exact ho1 x hx'
        cases u with
        | rest =>
          refine ⟨_, rfl, p, _, (0 : Int), .str "rest", rfl, rfl, hp, rfl, rfl, _, rfl, ?_⟩
          rw [dvs, decide_eq_false (by decide)]
          refine iteF ⟨_, rfl, p, _, (0 : Int), .str "rest", rfl, rfl, hp, rfl, rfl, _, rfl, ?_⟩
          rw [dvs, decide_eq_false (by decide)]
          refine iteF ⟨_, rfl, p, _, (0 : Int), .str "rest", rfl, rfl, hp, rfl, by show 2 ≤ sizeLine; decide, fun l hl => ⟨l, _, rfl, .inl (SqL.of upd_same), rfl, rfl, _, rfl, ?_⟩⟩
          have el := Ext.upd (o := .lst [V.str "long", .str "short"]) hl
          generalize L2.upd H' l (.lst [V.str "long", .str "short"]) = Hx at el ⊢
          rw [show (if false = true then !inV (V.str "rest") [V.str "long", .str "short"] else inV (V.str "rest") [V.str "long", .str "short"]) = false by decide +kernel]
          refine iteF ⟨_, rfl, rfl, _, rfl, ?_⟩
          rw [decide_eq_true rfl]
          exact iteF ⟨s', os, _, _, rfl, x5.trans (Ext.s el), hO5.ext el, g5, el _ _ hL5, by omega, hnm, pl1 rfl⟩
        | body =>
          refine ⟨_, rfl, p, _, (0 : Int), .str "body", rfl, rfl, hp, rfl, rfl, _, rfl, ?_⟩
          rw [dvs, decide_eq_false (by decide)]
          refine iteF ⟨_, rfl, p, _, (0 : Int), .str "body", rfl, rfl, hp, rfl, rfl, _, rfl, ?_⟩
          rw [dvs, decide_eq_false (by decide)]
          refine iteF ⟨_, rfl, p, _, (0 : Int), .str "body", rfl, rfl, hp, rfl, by show 2 ≤ sizeLine; decide, fun l hl => ⟨l, _, rfl, .inl (SqL.of upd_same), rfl, rfl, _, rfl, ?_⟩⟩
          have el := Ext.upd (o := .lst [V.str "long", .str "short"]) hl
          generalize L2.upd H' l (.lst [V.str "long", .str "short"]) = Hx at el ⊢
          rw [show (if false = true then !inV (V.str "body") [V.str "long", .str "short"] else inV (V.str "body") [V.str "long", .str "short"]) = false by decide +kernel]
          refine iteF ⟨_, rfl, rfl, _, rfl, ?_⟩
          rw [decide_eq_true rfl]
          exact iteF ⟨s', os, _, _, rfl, x5.trans (Ext.s el), hO5.ext el, g5, el _ _ hL5, by omega, hnm, pl1 rfl⟩
        | long h =>
          have hn : nameS h = true := huok
          refine ⟨_, rfl, p, _, (0 : Int), .str "long", rfl, rfl, hp, rfl, rfl, _, rfl, ?_⟩
          rw [dvs, decide_eq_true rfl]
          refine iteT ⟨_, rfl, p, _, (1 : Int), .str h, rfl, rfl, hp, rfl, ?_⟩
          refine ⟨_, rfl, p, _, (0 : Int), .str "long", rfl, rfl, hp, rfl, rfl, _, rfl, ?_⟩
          rw [dvs, decide_eq_false (by decide)]
          refine iteF ⟨_, rfl, p, _, (0 : Int), .str "long", rfl, rfl, hp, rfl, by show 2 ≤ sizeLine; decide, fun l hl => ⟨l, _, rfl, .inl (SqL.of upd_same), rfl, rfl, _, rfl, ?_⟩⟩
          have el := Ext.upd (o := .lst [V.str "long", .str "short"]) hl
          generalize L2.upd H' l (.lst [V.str "long", .str "short"]) = Hx at el ⊢
          rw [show (if false = true then !inV (V.str "long") [V.str "long", .str "short"] else inV (V.str "long") [V.str "long", .str "short"]) = true by decide +kernel]
          obtain ⟨Hy, hy, b0, b1, b2, b3, b4, b5, b6⟩ := app Hx el (some h) (fun x hx => by injection hx with hx; rw [← hx]; exact hn) rfl
          refine iteT ⟨_, rfl, .inl ⟨rfl, _, SqL.of b0⟩, _, rfl, L, _, .str h, rfl, rfl, b0, hlm, ?_⟩
          rw [show L2.upd Hx L (.lst (os.map sV ++ [.str h])) = Hy from hy.symm]
          refine ⟨_, rfl, rfl, _, rfl, ?_⟩
          rw [show decide (V.str h = V.non) = false from decide_eq_false (fun z => nomatch z)]
          refine iteT ⟨_, rfl, _, rfl, O, sl, so, n, s', h, rfl, b2, g5, fun t2 H6 x6 w6 _ _ => ?_⟩
          exact ⟨step s' h, _, _, _, rfl, b1.trans x6, w6, good_step g5 hn, x6 _ _ Lsl Lso b3, b4, b5, b6⟩
        | short j =>
          refine ⟨_, rfl, p, _, (0 : Int), .str "short", rfl, rfl, hp, rfl, rfl, _, rfl, ?_⟩
          rw [dvs, decide_eq_false (by decide)]
          refine iteF ⟨_, rfl, p, _, (0 : Int), .str "short", rfl, rfl, hp, rfl, rfl, _, rfl, ?_⟩
          rw [dvs, decide_eq_true rfl]
          refine iteT ⟨_, rfl, p, _, (1 : Int), .int (j : Int), rfl, rfl, hp, rfl, _, rfl, _, _, rfl, rfl, _, rfl, ?_⟩
          by_cases hjn : j < n
          · rw [decide_eq_true (show (j : Int) < (n : Int) by omega)]
            obtain ⟨_, ns, ok, _⟩ := id g5
            have hjl : j < s'.1.length := by rw [ok.len]; exact hjn
            refine iteT ⟨_, rfl, O, _, (0 : Int), .ref sl, rfl, rfl, SqL.of o1, rfl, _, rfl, p, _, (1 : Int), .int (j : Int), rfl, rfl, hp, rfl, sl, _, (j : Int), sV (s'.1[j]), rfl, rfl, SqL.of o2, atI_nat (by rw [List.getElem?_map, List.getElem?_eq_getElem hjl]; rfl), ?_⟩
            have hho : headO n s' (.short j) = some s'.1[j] := by
              show some (if j < n then (s'.1[j]?).join else none) = _
              rw [if_pos hjn, List.getElem?_eq_getElem hjl]
              rfl
            have hnm2 : ∀ x, s'.1[j] = some x → nameS x = true := fun x hx => held_name g5 (j := j) (by rw [List.getElem?_eq_getElem hjl, hx]; rfl)
            generalize s'.1[j] = ov at hho hnm2
            refine ⟨_, rfl, p, _, (0 : Int), .str "short", rfl, rfl, hp, rfl, by show 2 ≤ sizeLine; decide, fun l hl => ⟨l, _, rfl, .inl (SqL.of upd_same), rfl, rfl, _, rfl, ?_⟩⟩
            have el := Ext.upd (o := .lst [V.str "long", .str "short"]) hl
            generalize L2.upd H' l (.lst [V.str "long", .str "short"]) = Hx at el ⊢
            rw [show (if false = true then !inV (V.str "short") [V.str "long", .str "short"] else inV (V.str "short") [V.str "long", .str "short"]) = true by decide +kernel]
            obtain ⟨Hy, hy, b0, b1, b2, b3, b4, b5, b6⟩ := app Hx el ov hnm2 hho
            refine iteT ⟨_, rfl, .inl ⟨rfl, _, SqL.of b0⟩, _, rfl, L, _, sV ov, rfl, rfl, b0, hlm, ?_⟩
            rw [show L2.upd Hx L (.lst (os.map sV ++ [sV ov])) = Hy from hy.symm]
            cases ov with
            | none =>
              refine ⟨_, rfl, rfl, _, rfl, ?_⟩
              rw [nn_sV, decide_eq_true rfl]
              exact iteF ⟨s', _, _, _, rfl, b1, b2, g5, b3, b4, b5, b6⟩
            | some h =>
              have hn := hnm2 h rfl
              refine ⟨_, rfl, rfl, _, rfl, ?_⟩
              rw [nn_sV, show decide (some h = none) = false from decide_eq_false (fun z => nomatch z)]
              refine iteT ⟨_, rfl, _, rfl, O, sl, so, n, s', h, rfl, b2, g5, fun t2 H6 x6 w6 _ _ => ?_⟩
              exact ⟨step s' h, _, _, _, rfl, b1.trans x6, w6, good_step g5 hn, x6 _ _ Lsl Lso b3, b4, b5, b6⟩
          · rw [decide_eq_false (show ¬ (j : Int) < (n : Int) by omega)]
            have hho : headO n s' (.short j) = some none := by
              show some (if j < n then (s'.1[j]?).join else none) = _
              rw [if_neg hjn]
            refine iteF ⟨_, rfl, p, _, (0 : Int), .str "short", rfl, rfl, hp, rfl, by show 2 ≤ sizeLine; decide, fun l hl => ⟨l, _, rfl, .inl (SqL.of upd_same), rfl, rfl, _, rfl, ?_⟩⟩
            have el := Ext.upd (o := .lst [V.str "long", .str "short"]) hl
            generalize L2.upd H' l (.lst [V.str "long", .str "short"]) = Hx at el ⊢
            rw [show (if false = true then !inV (V.str "short") [V.str "long", .str "short"] else inV (V.str "short") [V.str "long", .str "short"]) = true by decide +kernel]
            obtain ⟨Hy, hy, b0, b1, b2, b3, b4, b5, b6⟩ := app Hx el none (fun x hx => nomatch hx) hho
            refine iteT ⟨_, rfl, .inl ⟨rfl, _, SqL.of b0⟩, _, rfl, L, _, .non, rfl, rfl, b0, hlm, ?_⟩
            rw [show L2.upd Hx L (.lst (os.map sV ++ [.non])) = Hy from hy.symm]
            refine ⟨_, rfl, rfl, _, rfl, ?_⟩
            rw [decide_eq_true rfl]
            exact iteF ⟨s', _, _, _, rfl, b1, b2, g5, b3, b4, b5, b6⟩
      · obtain ⟨s', os, o5, o6, rfl, x5, hO5, g5, hL5, hol, hnm, hpl⟩ := pv
        rw [List.drop_of_length_le (by omega)] at hpl
        replace hpl : play n (emp n) us = (os ++ [], s') := hpl
        rw [List.append_nil] at hpl
        have kn := hOw.kn x5
        have ht5 := kn t (.tup ws) (fun ys z => by cases z) ht4
        have hw5 := kn.wd hw4
        have hbag : BagAt H' B c (N + 30) := by
          obtain ⟨ns, i, z, n', m, b1, b2, b3, b4, b5, b6, b7⟩ := hB4
          exact ⟨ns, i, z, n', m, x5 _ _ hslB.1.symm hsoB.1.symm b1, x5 _ _ hslB.2.symm hsoB.2.symm b2, b3, b4, b5, by omega, b7⟩
        have xm : ExtM B H H' := fun x o hx h => by
          obtain ⟨h1, h2⟩ := hH3 x o (x03 x o hx h)
          exact x5 x o h1 h2 (x04 x o hx h)
        clear hB4 hw4 ht4 hOw x5 x04 x03 hH3
        have hfl : ∀ u ∈ us.map Un.v, ∀ v ∈ u, Fl v := fun u hu => by
          obtain ⟨x, hx, rfl⟩ := List.mem_map.mp hu
          exact u_fl (hok x hx)
        refine ⟨_, rfl, _, rfl, fun x0 dn hx0 hdx0 hne0 => mk_book (us := []) hx0 hdx0 hne0 hn4 (.tup (T.t0 _) .nil) rfl (fun u hu => absurd hu List.not_mem_nil) fun H2 e2 hBk => ⟨rfl, ?_⟩⟩
        replace hBk : BkAt K A H2 x0 n (emp n) := hBk
        have hdsm : ∀ ds, PyData.tuple ((us.map Un.v).map tP) = .tuple ds → ds.length ≤ 1000 ∧ ∀ x ∈ ds, SmD (sndD x) ∧ SeqAt.shaped x = true := fun ds hds => by
          cases hds
          refine ⟨by rw [List.length_map, List.length_map]; omega, fun x hx => ?_⟩
          rw [List.map_map] at hx
          obtain ⟨u, hu, rfl⟩ := List.mem_map.mp hx
          exact ⟨u_sm (hok u hu), shp_tup (u_fl (hok u hu))⟩
        have hyes : unitsD (.tuple ((us.map Un.v).map tP)) = true := by
          show ((us.map Un.v).map tP).all unitD = true
          rw [List.map_map]
          refine List.all_eq_true.mpr fun x hx => ?_
          obtain ⟨u, hu, rfl⟩ := List.mem_map.mp hx
          exact u_unit (hok u hu)
        refine ⟨.ref t, .ref x0, .tuple ((us.map Un.v).map tP), rfl, .tup (SqT.of (e2 _ _ ht5)) ((hw5.ext e2).dp hfl), hdsm, fun hno => (by rw [hyes] at hno; cases hno), fun _ => .inr ⟨x0, n, emp n, rfl, hBk, good_emp hn4, fun ds hds qq t2 hp c' H3 e3 hq ht2 hhp hbk => ?_⟩⟩
        cases hds
        have hmm : (us.map Un.v).map tP = us.map uP := by
          rw [List.map_map]
          rfl
        rw [hmm, read_play us _ hok, hpl] at hhp hbk
        rw [hmm] at ht2
        have hbn : bodiesN (us.map uP) = (us.filter Un.isBody).length := by
          unfold bodiesN
          rw [List.filter_map, List.length_map]
          congr 1
          exact List.filter_congr fun u _ => u_body
        rw [hbn] at ht2
        dsimp only at hhp hbk
        have e23 := e2.trans e3
        have hO3 := hO5.ext e23
        have hL3 := e23 _ _ hL5
        have ht3' := e23 _ _ ht5
        have hw3' := hw5.ext e23
        have hbag3 := hbag.ext e23
        have xm3 := xm.trans (Ext.m (st := B) e23)
        clear e2 e3 e23 hBk hdsm hyes ht5 hw5 hbag xm hO5 hL5
        refine ⟨qq, _, rfl, SqT.of hq, rfl, _, _, rfl, _, _, rfl, rfl, ?_⟩
        refine ⟨_, rfl, t, rfl, ⟨_, SqT.of ht3'⟩, fun C hC => ?_⟩
        refine lc_it (walk_tup (xs := ws)) (fun m H5 => Ext H3 H5 ∧ ∃ acc, H5 C = some (.lst acc) ∧ acc.length = ((us.take m).filter Un.isBody).length) ⟨Ext.upd hC, [], upd_same, rfl⟩ (fun m H5 _ pv => SqT.of (pv.1 _ _ ht3')) (fun m z Hx H5 hi pv hyy => ?_) (fun H5 pv => ?_)
        · obtain ⟨e4, acc, hC4, hal⟩ := pv
          obtain ⟨rfl, hz⟩ := hyy
          replace hz : ws[m]? = some z := hz
          obtain ⟨u, hu⟩ : ∃ u, us[m]? = some u := ⟨_, List.getElem?_eq_getElem (by have := (List.getElem?_eq_some_iff.mp hz).1; omega)⟩
          obtain ⟨p, rfl, hp⟩ := hw3'.2 m z u.v hz (by rw [List.getElem?_map, hu]; rfl)
          replace hp := hp.ext e4
          have hst : ((us.take (m + 1)).filter Un.isBody).length = ((us.take m).filter Un.isBody).length + (if u.isBody = true then 1 else 0) := by
            rw [take_snoc hu, List.filter_append, List.length_append, List.filter_cons, List.filter_nil]
            split <;> rfl
          have hle : ((us.take m).filter Un.isBody).length ≤ 10 := Nat.le_trans (List.length_filter_le _ _) (Nat.le_trans (by rw [List.length_take]; exact Nat.min_le_right _ _) (show us.length ≤ 10 by omega))
          have hkd : ∃ (kd : Str) (r : List V), u.v = .str kd :: r ∧ decide (kd = "body") = u.isBody := by
            cases u with
            | long h => exact ⟨"long", _, rfl, show decide (("long" : Str) = "body") = false by decide⟩
            | short j => exact ⟨"short", _, rfl, show decide (("short" : Str) = "body") = false by decide⟩
            | rest => exact ⟨"rest", _, rfl, by decide⟩
            | body => exact ⟨"body", _, rfl, by decide⟩
          obtain ⟨kd, r, hv, hb⟩ := hkd
          rw [hv] at hp
          refine ⟨rfl, _, rfl, p, _, (0 : Int), .str kd, rfl, rfl, hp, atI_nat (j := 0) rfl, rfl, _, rfl, ?_⟩
          rw [dvs, hb]
          cases hq2 : u.isBody with
          | false =>
            rw [hq2] at hst
            exact iteF ⟨e4, acc, hC4, by rw [hst, hal]; rfl⟩
          | true =>
            rw [hq2] at hst
            refine iteT ⟨_, rfl, _, hC4, small_sz (by omega), ext_mut e4 hC, _, upd_same, ?_⟩
            rw [List.length_append, hst, hal]
            rfl
        · obtain ⟨e4, acc, hC4, hal⟩ := pv
          rw [List.take_of_length_le (by omega)] at hal
          refine ⟨C, _, rfl, .inl (SqL.of hC4), ?_⟩
          rw [hal]
          refine ⟨_, rfl, _, rfl, L, _, rfl, .inl ⟨SqL.of (e4 _ _ hL3), fun h2 hh2 => ⟨_, rfl, by show 2 ≤ sizeLine; decide, fun t3 ht3 => ?_⟩⟩⟩
          have e5 := Ext.upd (o := .tup (os.map sV)) hh2
          have e6 := Ext.upd (o := .tup [V.ref h2, .int ((us.filter Un.isBody).length : Int)]) ht3
          have e456 := (e4.trans e5).trans e6
          have hfo := fl_os hnm
          refine ⟨.tuple [.tuple ((os.map sV).map pd), .int ((us.filter Un.isBody).length : Int)], .tuple [.tuple ((os.map sV).map pd), .int ((us.filter Un.isBody).length : Int)], .tup (SqT.of (e456 _ _ ht2)) (.cons (.tup (SqT.of (e456 _ _ hhp)) (dp_all hfo)) (.cons (.int _) .nil)), .tup (SqT.of upd_same) (.cons (.tup (SqT.of (e6 _ _ upd_same)) (dp_all hfo)) (.cons (.int _) .nil)), shp_let hfo _, shp_let hfo _, ?_⟩
          rw [eqv_let hfo]
          refine ⟨true, rfl, _, rfl, _, rfl, c', O, sl, so, n, s', rfl, hbk.ext e456, g5, hO3.ext e456, fun H7 e7 => ⟨true, rfl, _, rfl, _, rfl, c', O, sl, so, n, s', rfl, hbk.ext (e456.trans e7), g5, hO3.ext (e456.trans e7), fun H8 e8 => ?_⟩⟩
          have ee := (e456.trans e7).trans e8
          exact q H8 (hbag3.ext ee) (xm3.trans (Ext.m ee))
end
end K02

set_option Elab.async false
set_option maxRecDepth 100000
set_option maxHeartbeats 4000000
namespace K02
open PySem PySem.Spec PyProof.Rows L2
def wordP (s : St Str) (h : Str) : PyData := .tuple ((wordV s h).map pd)
theorem word_eq {s : St Str} {h : Str} : (some h ∈ s.1 ∧ wordV s h = [.str "short", nI (at1 s.1 (some h))]) ∨ (some h ∉ s.1 ∧ wordV s h = [.str "long", .str h]) := by
  unfold wordV
  by_cases hm : some h ∈ s.1
  · exact .inl ⟨hm, if_pos hm⟩
  · exact .inr ⟨hm, if_neg hm⟩
theorem at_lt {n : Nat} {s : St Str} (g : Good n s) {h : Str} (hm : some h ∈ s.1) : at1 s.1 (some h) < n := by
  obtain ⟨_, ns, ok, _⟩ := g
  have := (List.getElem?_eq_some_iff.mp (at1_mem hm).1).1
  rw [ok.len] at this
  exact this
theorem lay_tP : ∀ {ts : List (List V)}, (∀ t ∈ ts, ∀ v ∈ t, Fl v) → PyData.canLayAll0 (ts.map tP) = true ∧ PyData.depthAll (ts.map tP) ≤ 1
  | [], _ => ⟨rfl, Nat.zero_le _⟩
  | t :: ts, h => by
    obtain ⟨a, b⟩ := lay_tP (ts := ts) fun x hx => h x (List.mem_cons_of_mem _ hx)
    obtain ⟨c, d⟩ := lay_all (h t List.mem_cons_self)
    constructor
    · show (PyData.canLayAll0 (t.map pd) && PyData.canLayAll0 (ts.map tP)) = true
      rw [a, c]
      rfl
    · show max (PyData.depthAll (t.map pd) + 1) (PyData.depthAll (ts.map tP)) ≤ 1
      rw [d]
      exact Nat.max_le.mpr ⟨Nat.le_refl _, b⟩
theorem eqv_tP : ∀ {ts : List (List V)}, (∀ t ∈ ts, ∀ v ∈ t, Fl v) → PyData.eqvAll (ts.map tP) (ts.map tP) = true
  | [], _ => rfl
  | t :: ts, h => by
    show (PyData.eqvAll (t.map pd) (t.map pd) && PyData.eqvAll (ts.map tP) (ts.map tP)) = true
    rw [eqv_same (h t List.mem_cons_self), eqv_tP (ts := ts) fun x hx => h x (List.mem_cons_of_mem _ hx)]
    rfl
theorem shp_tPt {ts : List (List V)} (h : ∀ t ∈ ts, ∀ v ∈ t, Fl v) : SeqAt.shaped (.tuple (ts.map tP)) = true := by
  obtain ⟨a, b⟩ := lay_tP h
  show (PyData.canLayAll0 (ts.map tP) && decide (PyData.depthAll (ts.map tP) + 1 ≤ 64)) = true
  rw [a, decide_eq_true (by omega)]
  rfl
def unU (s : St Str) (k : Nat) : List Str → List Un
  | [] => []
  | h :: hs => (if some h ∈ s.1 then Un.short (at1 s.1 (some h)) else .long h) :: ((if some h ∈ s.1 then [] else List.replicate k .rest) ++ unU (step s h) k hs)
theorem unU_v (k : Nat) : ∀ (hs : List Str) (s : St Str), (unU s k hs).map Un.v = unV s k hs
  | [], _ => rfl
  | h :: hs, s => by
    unfold unU unV wordV
    rw [List.map_cons, List.map_append, unU_v k hs]
    by_cases hm : some h ∈ s.1
    · rw [if_pos hm, if_pos hm, if_pos hm, if_pos hm]
      rfl
    · rw [if_neg hm, if_neg hm, if_neg hm, if_neg hm, List.map_replicate]
      rfl
theorem play_rest {n : Nat} {s : St Str} {us : List Un} : ∀ k : Nat, play n s (List.replicate k .rest ++ us) = play n s us
  | 0 => rfl
  | k + 1 => by
    rw [List.replicate_succ]
    exact play_rest k
theorem play_body {n : Nat} {s : St Str} : ∀ k : Nat, play n s (List.replicate k .body) = ([], s)
  | 0 => rfl
  | k + 1 => by
    rw [List.replicate_succ]
    exact play_body k
theorem unU_play {n k b : Nat} : ∀ (hs : List Str) (s : St Str), Good n s → (∀ h, h ∈ hs → nameS h = true) → play n s (unU s k hs ++ List.replicate b Un.body) = (hs.map some, hs.foldl step s) ∧ ∀ u ∈ unU s k hs, u.ok ∧ u.isBody = false
  | [], s, _, _ => ⟨play_body b, fun u hu => absurd hu List.not_mem_nil⟩
  | h :: hs, s, g, hn => by
    have hh := hn h List.mem_cons_self
    obtain ⟨i1, i2⟩ := unU_play (n := n) (k := k) (b := b) hs (step s h) (good_step g hh) fun x hx => hn x (List.mem_cons_of_mem _ hx)
    by_cases hm : some h ∈ s.1
    · have e : unU s k (h :: hs) = .short (at1 s.1 (some h)) :: unU (step s h) k hs := by
        show (if some h ∈ s.1 then Un.short (at1 s.1 (some h)) else .long h) :: ((if some h ∈ s.1 then [] else List.replicate k .rest) ++ unU (step s h) k hs) = _
        rw [if_pos hm, if_pos hm]
        rfl
      have hlt := at_lt g hm
      have ho : headO n s (.short (at1 s.1 (some h))) = some (some h) := by
        show some (if at1 s.1 (some h) < n then (s.1[at1 s.1 (some h)]?).join else none) = _
        rw [if_pos hlt, (at1_mem hm).1]
        rfl
      refine ⟨?_, fun u hu => ?_⟩
      · rw [e, List.cons_append]
        show (match headO n s (.short (at1 s.1 (some h))) with | none => play n s (unU (step s h) k hs ++ List.replicate b Un.body) | some o => (o :: (play n (stepO s o) (unU (step s h) k hs ++ List.replicate b Un.body)).1, (play n (stepO s o) (unU (step s h) k hs ++ List.replicate b Un.body)).2)) = _
        rw [ho]
        show (some h :: (play n (step s h) _).1, (play n (step s h) _).2) = _
        rw [i1]
        rfl
      · rw [e] at hu
        rcases List.mem_cons.mp hu with rfl | hu
        · exact ⟨Nat.lt_of_lt_of_le hlt g.1, rfl⟩
        · exact i2 u hu
    · have e : unU s k (h :: hs) = .long h :: (List.replicate k .rest ++ unU (step s h) k hs) := by
        show (if some h ∈ s.1 then Un.short (at1 s.1 (some h)) else .long h) :: ((if some h ∈ s.1 then [] else List.replicate k .rest) ++ unU (step s h) k hs) = _
        rw [if_neg hm, if_neg hm]
      refine ⟨?_, fun u hu => ?_⟩
      · rw [e, List.cons_append, List.append_assoc]
        show (some h :: (play n (step s h) _).1, (play n (step s h) _).2) = _
        rw [play_rest, i1]
        rfl
      · rw [e] at hu
        rcases List.mem_cons.mp hu with rfl | hu
        · exact ⟨hh, rfl⟩
        · rcases List.mem_append.mp hu with hu | hu
          · rw [(List.mem_replicate.mp hu).2]
            exact ⟨True.intro, rfl⟩
          · exact i2 u hu
theorem un_of {n k b : Nat} {s : St Str} {hs : List Str} (g : Good n s) (hn : ∀ h, h ∈ hs → nameS h = true) : ∃ us : List Un, unA s k hs b = us.map Un.v ∧ (∀ u ∈ us, u.ok) ∧ play n s us = (hs.map some, hs.foldl step s) ∧ (us.filter Un.isBody).length = b := by
  obtain ⟨h1, h2⟩ := unU_play (n := n) (k := k) (b := b) hs s g hn
  refine ⟨unU s k hs ++ List.replicate b .body, ?_, fun u hu => ?_, h1, ?_⟩
  · unfold unA
    rw [List.map_append, unU_v, List.map_replicate]
    rfl
  · rcases List.mem_append.mp hu with h | h
    · exact (h2 u h).1
    · rw [(List.mem_replicate.mp h).2]
      exact True.intro
  · rw [List.filter_append, List.filter_eq_nil_iff.mpr fun u hu => by rw [(h2 u hu).2]; exact Bool.false_ne_true, List.nil_append, List.filter_replicate]
    show (if true = true then List.replicate b Un.body else []).length = b
    rw [if_pos rfl, List.length_replicate]
theorem good_fold {n : Nat} : ∀ {hs : List Str} {s : St Str}, Good n s → (∀ h, h ∈ hs → nameS h = true) → Good n (hs.foldl step s)
  | [], _, g, _ => g
  | h :: hs, s, g, hn => good_fold (hs := hs) (good_step g (hn h List.mem_cons_self)) fun x hx => hn x (List.mem_cons_of_mem _ hx)
theorem str_inj : ∀ {a b : List Str}, a.map PyData.str = b.map PyData.str → a = b
  | [], [], _ => rfl
  | [], _ :: _, h => nomatch h
  | _ :: _, [], h => nomatch h
  | x :: a, y :: b, h => by
    rw [List.map_cons, List.map_cons] at h
    injection h with h1 h2
    injection h1 with h1
    rw [h1, str_inj h2]
theorem let_inj {hs hs' : List Str} {b b' : Nat} (h : PyData.tuple [.tuple (hs.map PyData.str), .int (b : Int)] = .tuple [.tuple (hs'.map PyData.str), .int (b' : Int)]) : hs = hs' ∧ b = b' := by
  injection h with h
  injection h with h1 h2
  injection h1 with h1
  injection h2 with h2
  injection h2 with h2
  exact ⟨str_inj h1, by omega⟩
theorem let_sm {hs : List Str} {b : Nat} (hn : ∀ h, h ∈ hs → nameS h = true) : SmL (.tuple [.tuple (hs.map PyData.str), .int (b : Int)]) := by
  intro ds c e x hx
  injection e with e
  injection e with e1 e2
  injection e1 with e1
  rw [← e1] at hx
  obtain ⟨u, hu, rfl⟩ := List.mem_map.mp hx
  have := name_len (hn u hu)
  show u.length ≤ 1000
  omega
theorem let_yes {hs : List Str} {b : Nat} (hn : ∀ h, h ∈ hs → nameS h = true) (h4 : hs.length ≤ 4) (hb : b ≤ 60) : letterD (.tuple [.tuple (hs.map PyData.str), .int (b : Int)]) = true := by
  show (decide ((hs.map PyData.str).length ≤ 4) && ((hs.map PyData.str).all nameD && betD (.int (b : Int)) 0 60)) = true
  rw [List.length_map, decide_eq_true h4, bet_int, decide_eq_true (show (0 : Int) ≤ (b : Int) by omega), decide_eq_true (show (b : Int) ≤ 60 by omega), List.all_map]
  rw [show hs.all (nameD ∘ PyData.str) = true from List.all_eq_true.mpr fun x hx => hn x hx]
  rfl
end K02

set_option Elab.async false
set_option maxRecDepth 100000
set_option maxHeartbeats 4000000
namespace K02
open PySem PySem.Spec PyProof.Rows L2
theorem pd_str {hs : List Str} : (hs.map V.str).map pd = hs.map PyData.str := by
  rw [List.map_map]
  rfl
section
variable {P : Program} {w : World} {K : PySem.W.Frag} {mg : Str → Option Value} {base : Heap} {A : Ad}
def Rbk (K : PySem.W.Frag) (A : Ad) : Addr → Addr → Hp → Bool → Prop := fun a b H k => ∃ n s, BkAt K A H a n s ∧ BkAt K A H b n s ∧ Good n s ∧ k = true
abbrev DBk (K : PySem.W.Frag) (A : Ad) : EqvB := fun x y H k => DDat K x y H k ∨ DInsB A.Book (Rbk K A) x y H k
theorem mon_bk : MonB (DBk K A) := MonB.or mon_dat fun x y H H' k e d => by
  obtain ⟨a, b, dx, dy, fs, gs, rfl, rfl, h1, h2, n, s, w1, w2, g, hk⟩ := d
  exact ⟨a, b, dx, dy, fs, gs, rfl, rfl, e _ _ h1, e _ _ h2, n, s, w1.ext e, w2.ext e, g, hk⟩
theorem eqB_bk {X : Cx} (O : OwnM X.prog X.w X.K X.mg X.base CX0 A.Book "__eq__" 1 pm_Book_eq (spEq X.K A)) : EqB X 1 (DBk X.K A) := by
  obtain ⟨f, fd, F, M, hi, hb⟩ := O.ex
  refine eqB_dat.or ((rcB_ins (E := E0) (F.imp fun vs H Q E h => ?_) M.at_ hi hb pass0).eqB fun x y H k d => ?_)
  · obtain ⟨a, b, k, rfl, ⟨n, s, w1, w2, g, rfl⟩, q⟩ := h
    refine ⟨a, n, s, .ref b, rfl, w1, g, .inl ⟨b, n, s, rfl, w2, g, ?_⟩⟩
    rw [decide_eq_true ⟨rfl, rfl⟩]
    exact q H Ext.rfl'
  · obtain ⟨a, b, _, _, _, _, rfl, rfl, _, _, _, _, _, _, _, rfl⟩ := d
    exact ⟨a, b, rfl, rfl, fun _ => rfl⟩
theorem OwnAt.m {B O sl so : Addr} {H H' : Hp} {s : St Str} (h : OwnAt H O sl so s) (x : ExtM B H H') (h1 : O ≠ B) (h2 : sl ≠ B) (h3 : so ≠ B) : OwnAt H' O sl so s := ⟨x _ _ h1 h.1, x _ _ h2 h.2.1, x _ _ h3 h.2.2.1, h.2.2.2⟩
theorem BagAt.s {B c sl so : Addr} {N : Nat} {H H' : Hp} (h : BagAt H B c N) (x : ExtS sl so H H') (h1 : sl ≠ B ∧ sl ≠ c) (h2 : so ≠ B ∧ so ≠ c) : BagAt H' B c N := by
  obtain ⟨ns, i, z, n, m, a1, a2, h⟩ := h
  exact ⟨ns, i, z, n, m, x _ _ h1.1.symm h2.1.symm a1, x _ _ h1.2.symm h2.2.symm a2, h⟩
theorem dp_let {H : Hp} {q t : Addr} {hs : List Str} {b : Nat} (hn : ∀ h, h ∈ hs → nameS h = true) (hq : H q = some (.tup [.ref t, .int (b : Int)])) (ht : H t = some (.tup (hs.map V.str))) : Dp K H (.ref q) (.tuple [.tuple ((hs.map V.str).map pd), .int (b : Int)]) :=
  .tup (SqT.of hq) (.cons (.tup (SqT.of ht) (dp_all (fl_str hn))) (.cons (.int _) .nil))
theorem wr_ok {H : Hp} {q t b : Addr} {n cost body : Nat} {s : St Str} {hs : List Str} {Q : VK} {E : XK} (hB : BkAt K A H b n s) (g : Good n s) (hn : ∀ h, h ∈ hs → nameS h = true) (h4 : hs.length ≤ 4) (hb : body ≤ 60) (c2 : 2 ≤ cost) (c9 : cost ≤ 9) (hq : H q = some (.tup [.ref t, .int (body : Int)])) (ht : H t = some (.tup (hs.map V.str)))
    (k : ∀ q' U c' ws H', Ext H H' → H' q' = some (.tup [.ref U, .ref c']) → H' U = some (.tup ws) → Wd K H' ws (unA s (cost - 1) hs body) → BkAt K A H' c' n (hs.foldl step s) → Q (.ref q') H') : spWritten K A [.ref q, .ref b, .int (cost : Int)] H Q E := by
  have hd := dp_let (K := K) hn hq ht
  rw [pd_str] at hd
  refine ⟨.ref q, .ref b, .int (cost : Int), _, .int (cost : Int), rfl, hd, let_sm hn, .int _, fun hno => ?_, fun _ => .inr ⟨b, n, s, rfl, hB, g, fun hno => ?_, fun hs' body' cost' e1 e2 _ _ _ _ _ q' U c' ws H' e hq' hU hw hbk => ?_⟩⟩
  · rw [let_yes hn h4 hb] at hno
    cases hno
  · rw [bet_int, decide_eq_true (show (2 : Int) ≤ (cost : Int) by omega), decide_eq_true (show (cost : Int) ≤ 9 by omega)] at hno
    cases hno
  · obtain ⟨rfl, rfl⟩ := let_inj e1
    injection e2 with e2
    obtain rfl : cost = cost' := by omega
    exact k q' U c' ws H' e hq' hU hw hbk
theorem rd_ok {H : Hp} {d b : Addr} {n body : Nat} {s : St Str} {hs : List Str} {us : List Un} {ws : List V} {Q : VK} {E : XK} (hB : BkAt K A H b n s) (g : Good n s) (hd : H d = some (.tup ws)) (hw : Wd K H ws (us.map Un.v)) (hok : ∀ u ∈ us, u.ok) (hl : us.length ≤ 1000) (hpl : play n s us = (hs.map some, hs.foldl step s)) (hbn : (us.filter Un.isBody).length = body)
    (k : ∀ q t hp c' H', Ext H H' → H' q = some (.tup [.ref t, .ref c']) → H' t = some (.tup [.ref hp, .int (body : Int)]) → H' hp = some (.tup (hs.map V.str)) → BkAt K A H' c' n (hs.foldl step s) → Q (.ref q) H') : spReadL K A [.ref d, .ref b] H Q E := by
  have hfl : ∀ u ∈ us.map Un.v, ∀ v ∈ u, Fl v := fun u hu => by
    obtain ⟨x, hx, rfl⟩ := List.mem_map.mp hu
    exact u_fl (hok x hx)
  have hdsm : ∀ ds, PyData.tuple ((us.map Un.v).map tP) = .tuple ds → ds.length ≤ 1000 ∧ ∀ x ∈ ds, SmD (sndD x) ∧ SeqAt.shaped x = true := fun ds hds => by
    cases hds
    refine ⟨by rw [List.length_map, List.length_map]; exact hl, fun x hx => ?_⟩
    rw [List.map_map] at hx
    obtain ⟨u, hu, rfl⟩ := List.mem_map.mp hx
    exact ⟨u_sm (hok u hu), shp_tup (u_fl (hok u hu))⟩
  have hyes : unitsD (.tuple ((us.map Un.v).map tP)) = true := by
    show ((us.map Un.v).map tP).all unitD = true
    rw [List.map_map]
    refine List.all_eq_true.mpr fun x hx => ?_
    obtain ⟨u, hu, rfl⟩ := List.mem_map.mp hx
    exact u_unit (hok u hu)
  refine ⟨.ref d, .ref b, .tuple ((us.map Un.v).map tP), rfl, .tup (SqT.of hd) (hw.dp hfl), hdsm, fun hno => (by rw [hyes] at hno; cases hno), fun _ => .inr ⟨b, n, s, rfl, hB, g, fun ds hds qq t2 hp c' H3 e3 hq ht2 hhp hbk => ?_⟩⟩
  cases hds
  have hmm : (us.map Un.v).map tP = us.map uP := by
    rw [List.map_map]
    rfl
  rw [hmm, read_play us _ hok, hpl] at hhp hbk
  rw [hmm] at ht2
  have hbn2 : bodiesN (us.map uP) = body := by
    rw [← hbn]
    unfold bodiesN
    rw [List.filter_map, List.length_map]
    congr 1
    exact List.filter_congr fun u _ => u_body
  rw [hbn2] at ht2
  dsimp only at hhp hbk
  rw [List.map_map] at hhp
  exact k qq t2 hp c' H3 e3 hq ht2 hhp hbk
theorem eqv_tPt {ts : List (List V)} (h : ∀ t ∈ ts, ∀ v ∈ t, Fl v) : PyData.eqv (.tuple (ts.map tP)) (.tuple (ts.map tP)) = true := eqv_tP h
theorem unv_len (k : Nat) : ∀ (hs : List Str) (s : St Str), (unV s k hs).length ≤ (k + 1) * hs.length
  | [], _ => Nat.zero_le _
  | h :: hs, s => by
    have i := unv_len k hs (step s h)
    unfold unV
    rw [List.length_cons, List.length_append, List.length_cons, Nat.mul_succ]
    split
    · show 0 + _ + 1 ≤ _
      omega
    · rw [List.length_replicate]
      omega
theorem una_len {s : St Str} {cost body : Nat} {hs : List Str} (c9 : cost ≤ 9) (h4 : hs.length ≤ 4) (hb : body ≤ 60) : (unA s (cost - 1) hs body).length ≤ 1000 := by
  unfold unA
  rw [List.length_append, List.length_replicate]
  have h1 := unv_len (cost - 1) hs s
  have h2 : (cost - 1 + 1) * hs.length ≤ 9 * 4 := Nat.mul_le_mul (by omega) h4
  omega
theorem kit_tt : PySem.W.kitOne K (.type "tuple") (.type "tuple") = some true := kit_ty (by decide +kernel)
def spLaw (K : PySem.W.Frag) : Sp := fun vs H Q _ => ∃ (a : Addr) (ns : List Int), vs = [.ref a] ∧ SqL K H a (ns.map V.int) ∧ ns.length ≤ 63 ∧ ∀ H', Q (.bl true) H'
theorem ok_law {f : Addr} {fd : FuncData} (F : Fun K "law" "law" s_law f fd) (T : Txt K mg A) (O__law_bag : Own P w K mg base CX0 "_law_bag" 1 pm__law_bag (spBag K)) (O__law_draw : Own P w K mg base CX0 "_law_draw" 1 pm__law_draw spDraw) (O_Book1 : OwnCD P w K mg base (L2.CX P w) "Book" A.Book 5 pm_Book_init (spBookInit K A) [.ref A.T0])
    (O__law_letter : Own P w K mg base CX0 "_law_letter" 2 pm__law_letter spLLetter) (O__law_units : Own P w K mg base CX0 "_law_units" 2 pm__law_units (spUnitsL K)) (O_written : Own P w K mg base (L2.CX P w) "written" 8 pm_written (spWritten K A))
    (O__law_holds : Own P w K mg base CX0 "_law_holds" 2 pm__law_holds (spHolds K A)) (O__law_same_order : Own P w K mg base CX0 "_law_same_order" 2 pm__law_same_order (spSameO K A)) (O_Book_eq : OwnM P w K mg base CX0 A.Book "__eq__" 1 pm_Book_eq (spEq K A))
    (O_read_letter : Own P w K mg base (L2.CX P w) "read_letter" 8 pm_read_letter (spReadL K A)) (O__law_free : Own P w K mg base CX0 "_law_free" 9 pm__law_free (spFree K)) (O__law_odd : Own P w K mg base CX0 "_law_odd" 10 pm__law_odd (spOdd K A)) : FnOk P w K mg base CX0 11 f fd pm_law (spLaw K) := by
  refine F.ok sc_law (fun vs H Q E h => ?_) (fun cdv A' outer sh H vs Q E hr h => ?_)
  · obtain ⟨_, _, rfl, _⟩ := h
    rfl
  · obtain ⟨sc, ns, rfl, hsc, hl, q⟩ := h
    refine ⟨_, pss_cons (ps_set (i := 1) sc_law.nd rfl (Or.inl rfl) (pe_own O__law_bag (hr.mono (by decide)) pass0 (pa_cons (pv 0) pa_nil)))
      (pss_cons (ps_set (i := 2) sc_law.nd rfl (Or.inl rfl) (pe_own O__law_draw (hr.mono (by decide)) pass0 (pa_cons (pv 1) (pa_cons (pe_int) pa_nil))))
      (pss_cons (ps_set (i := 3) sc_law.nd rfl (Or.inl rfl) (pe_op op_add (pe_int) (pe_own O__law_draw (hr.mono (by decide)) pass0 (pa_cons (pv 1) (pa_cons (pe_int) pa_nil)))))
      (pss_cons (ps_set (i := 4) sc_law.nd rfl (Or.inl rfl) (pe_lst (pa_cons (pe_op op_rep (pe_lst (pa_cons (pe_non) pa_nil)) (pv 2)) (pa_cons (pe_lst (pa_nil)) pa_nil))))
      (pss_cons (ps_set (i := 5) sc_law.nd rfl (Or.inl rfl) (pe_newD O_Book1 (hr.mono (by decide)) passL (pa_cons (pv 2) pa_nil)))
      (pss_cons (ps_set (i := 6) sc_law.nd rfl (Or.inl rfl) (pe_newD O_Book1 (hr.mono (by decide)) passL (pa_cons (pv 2) pa_nil)))
      (pss_cons (ps_for PassesOwn.never rfl (pi_range1 rfl T.n_range (pa_cons (pe_op op_add (pe_int) (pe_own O__law_draw (hr.mono (by decide)) pass0 (pa_cons (pv 1) (pa_cons (pe_int) pa_nil)))) pa_nil)) (pg_name (i := 7) sc_law.nd rfl (Or.inl rfl)) (pss_cons (ps_set (i := 8) sc_law.nd rfl (Or.inl rfl) (pe_own O__law_letter (hr.mono (by decide)) pass0 (pa_cons (pv 1) (pa_cons (pe_int) pa_nil))))
      (pss_cons (ps_set (i := 9) sc_law.nd rfl (Or.inl rfl) (pe_callTy call_tuple_of (by rfl) T.n_tuple (by decide +kernel) (pa_cons (pe_own O__law_units (hr.mono (by decide)) pass0 (pa_cons (pv 4) (pa_cons (pv 8) (pa_cons (pv 3) pa_nil)))) pa_nil)))
      (pss_cons (ps_set (i := 10) sc_law.nd rfl (Or.inl rfl) (pe_own O_written (hr.mono (by decide)) passL (pa_cons (pv 8) (pa_cons (pv 5) (pa_cons (pv 3) pa_nil)))))
      (pss_cons (ps_if (PW.pt (pw_or (pt_not (pt_val (pe_callB call_isi (by rfl) T.n_isinstance (by decide +kernel) (pa_cons (pv 10) (pa_cons (pe_bltn (v := .ty "tuple") (by rfl) T.n_tuple (by decide +kernel) rfl) pa_nil))))) (pw_or (pt_cmpR op_ne (pe_callB call_len_seq (by rfl) T.n_len (by decide +kernel) (pa_cons (pv 10) pa_nil)) (pe_int) (nomark _)) (pw_or (pt_cmpR (op_neD hr.units) (pe_ix ix_tup (pv 10) (pe_int) (fun _ _ => rfl)) (pv 9) (nomark _)) (pw_or1 (pt_not (pt_val (pe_own O__law_holds (hr.mono (by decide)) pass0 (pa_cons (pe_ix ix_tup (pv 10) (pe_int) (fun _ _ => rfl)) (pa_cons (pv 4) pa_nil)))))))))) (pss_one (ps_ret (pe_bl))) (pss_nil))
      (pss_cons (ps_if (PW.pt (pw_or (pt_not (pt_val (pe_own O__law_same_order (hr.mono (by decide)) pass0 (pa_cons (pe_ix ix_tup (pv 10) (pe_int) (fun _ _ => rfl)) (pa_cons (pv 4) pa_nil))))) (pw_or1 (pt_cmpR (op_neB (rcNB_tup mon_bk (eqB_bk O_Book_eq)) (hr.mono (by decide))) (pe_own O_written (hr.mono (by decide)) passL (pa_cons (pv 8) (pa_cons (pv 5) (pa_cons (pv 3) pa_nil)))) (pv 10) (nomark _))))) (pss_one (ps_ret (pe_bl))) (pss_nil))
      (pss_cons (ps_set (i := 11) sc_law.nd rfl (Or.inl rfl) (pe_own O_read_letter (hr.mono (by decide)) passL (pa_cons (pv 9) (pa_cons (pv 6) pa_nil))))
      (pss_cons (ps_if (PW.pt (pw_or (pt_not (pt_val (pe_callB call_isi (by rfl) T.n_isinstance (by decide +kernel) (pa_cons (pv 11) (pa_cons (pe_bltn (v := .ty "tuple") (by rfl) T.n_tuple (by decide +kernel) rfl) pa_nil))))) (pw_or (pt_cmpR op_ne (pe_callB call_len_seq (by rfl) T.n_len (by decide +kernel) (pa_cons (pv 11) pa_nil)) (pe_int) (nomark _)) (pw_or (pt_cmpR (op_neD hr.units) (pe_ix ix_tup (pv 11) (pe_int) (fun _ _ => rfl)) (pv 8) (nomark _)) (pw_or1 (pt_cmpR (neO O_Book_eq T.Book.neM (hr.mono (by decide)) pass0) (pe_ix ix_tup (pv 11) (pe_int) (fun _ _ => rfl)) (pe_ix ix_tup (pv 10) (pe_int) (fun _ _ => rfl)) (nomark _))))))) (pss_one (ps_ret (pe_bl))) (pss_nil))
      (pss_cons (ps_set (i := 5) sc_law.nd rfl (Or.inl rfl) (pe_ix ix_tup (pv 10) (pe_int) (fun _ _ => rfl)))
      (pss_one (ps_set (i := 6) sc_law.nd rfl (Or.inl rfl) (pe_ix ix_tup (pv 11) (pe_int) (fun _ _ => rfl)))))))))))))
      (pss_one (ps_ret (pe_and (pe_own O__law_free (hr.mono (by decide)) pass0 (pa_cons (pv 1) (pa_cons (pv 2) pa_nil))) (pe_one (pe_own O__law_odd (hr.mono (by decide)) pass0 (pa_cons (pv 1) (pa_cons (pv 5) pa_nil))))))))))))), ?_⟩
    refine ⟨_, rfl, sc, ns, rfl, hsc, hl, fun B c H1 e1 hB0 hB1 => ?_⟩
    refine ⟨_, rfl, B, c, 0, 5, rfl, hB1, by omega, by omega, by omega, fun p H2 p0 p5 hB2 x2 => ?_⟩
    refine ⟨_, rfl, B, c, _, 8, rfl, hB2, by omega, by omega, by omega, fun z H3 z0 z8 hB3 x3 => ⟨_, _, rfl, rfl, ?_⟩⟩
    obtain ⟨n, rfl⟩ : ∃ k : Nat, p = (k : Int) := ⟨p.toNat, by omega⟩
    obtain ⟨cost, hcost⟩ : ∃ k : Nat, 2 + z = (k : Int) := ⟨(2 + z).toNat, by omega⟩
    dsimp only
    rw [hcost]
    have hn4 : n ≤ 4 := by omega
    have c2 : 2 ≤ cost := by omega
    have c9 : cost ≤ 9 := by omega
    clear p0 p5 z0 z8 hcost hB1 hB2 x2 x3 e1 hB0 hsc hl
    refine ⟨by show 1 ≤ sizeLine; decide, fun l0 hl0 => ⟨_, rfl, l0, _, _, rfl, rfl, upd_same, by omega, by omega, by show 1 * _ ≤ sizeLine; exact Nat.le_of_lt (small_sz (by omega)), fun sl hsl => ⟨by show 0 ≤ sizeLine; decide, fun so hso => ⟨by show 2 ≤ sizeLine; decide, fun O hO => ?_⟩⟩⟩⟩
    rw [flat_rep, Int.toNat_natCast] at hso hO ⊢
    have a1 := Ext.upd (o := .lst [V.non]) hl0
    have a2 := Ext.upd (o := .lst (List.replicate n V.non)) hsl
    have a3 := Ext.upd (o := .lst []) hso
    have a4 := Ext.upd (o := .lst [V.ref sl, .ref so]) hO
    have hne1 : sl ≠ so := ne_of_none (upd_same (o := HO.lst (List.replicate n V.non))) hso
    have hne2 : O ≠ sl := (ne_of_none (a3 _ _ (upd_same (o := HO.lst (List.replicate n V.non)))) hO).symm
    have hne3 : O ≠ so := (ne_of_none (upd_same (o := HO.lst [])) hO).symm
    have hOw : OwnAt (L2.upd (L2.upd (L2.upd (L2.upd H3 l0 (.lst [V.non])) sl (.lst (List.replicate n V.non))) so (.lst [])) O (.lst [V.ref sl, .ref so])) O sl so (emp n) := by
      refine ⟨upd_same, ?_, a4 _ _ upd_same, hne1, hne2, hne3⟩
      rw [(a3.trans a4) _ _ (upd_same (o := HO.lst (List.replicate n V.non)))]
      show _ = some (HO.lst ((List.replicate n (none : Option Str)).map sV))
      rw [List.map_replicate]
      rfl
    have e4 := ((a1.trans a2).trans a3).trans a4
    have hB4 := hB3.ext e4
    have hslB : sl ≠ B ∧ sl ≠ c := (hB3.ext a1).new hsl
    have hsoB : so ≠ B ∧ so ≠ c := ((hB3.ext a1).ext a2).new hso
    have hOB : O ≠ B := ((((hB3.ext a1).ext a2).ext a3).new hO).1
    generalize L2.upd (L2.upd (L2.upd (L2.upd H3 l0 (.lst [V.non])) sl (.lst (List.replicate n V.non))) so (.lst [])) O (.lst [V.ref sl, .ref so]) = H4 at hOw e4 hB4 ⊢
    clear a1 a2 a3 a4 hsl hso hO hl0 e4 hB3
    refine ⟨_, rfl, fun x0 dn hx0 hdx0 hne0 => mk_book (us := []) hx0 hdx0 hne0 hn4 (.tup (T.t0 _) .nil) rfl (fun u hu => absurd hu List.not_mem_nil) fun H5 e5 hk1 => ⟨rfl, ?_⟩⟩
    refine ⟨_, rfl, fun x1 dn1 hx1 hdx1 hne1 => mk_book (us := []) hx1 hdx1 hne1 hn4 (.tup (T.t0 _) .nil) rfl (fun u hu => absurd hu List.not_mem_nil) fun H6 e6 hk2 => ⟨rfl, ?_⟩⟩
    replace hk1 : BkAt K A H6 x0 n (emp n) := hk1.ext e6
    replace hk2 : BkAt K A H6 x1 n (emp n) := hk2
    have e56 := e5.trans e6
    replace hB4 := hB4.ext e56
    replace hOw := hOw.ext e56
    clear e5 e6 e56
    refine ⟨_, rfl, B, c, _, 6, rfl, hB4, by omega, by omega, by omega, fun y H7 y0 y6 hB7 x7 => ⟨_, _, rfl, rfl, (1 : Int) + y, rfl, by omega, by omega, ?_⟩⟩
    obtain ⟨m, hm⟩ : ∃ m : Nat, (1 + y).toNat = m := ⟨_, rfl⟩
    rw [hm]
    have hm6 : m ≤ 6 := by omega
    clear y0 y6 hm
    have kn7 := x7.kn hB4
    replace hk1 := kn7.bk hk1
    replace hk2 := kn7.bk hk2
    replace hOw := hOw.m x7 hOB hslB.1 hsoB.1
    clear kn7 x7 hB4
    refine for_range (n := m) (fun i σ' H' => ∃ s b1 b2 o7 o8 o9 o10 o11, σ' = [some (.ref sc), some (.ref B), some (.int (n : Int)), some (.int (cost : Int)), some (.ref O), some (.ref b1), some (.ref b2), o7, o8, o9, o10, o11] ∧ BagAt H' B c (3 + 7 * i) ∧ OwnAt H' O sl so s ∧ Good n s ∧ BkAt K A H' b1 n s ∧ BkAt K A H' b2 n s)
      ⟨emp n, x0, x1, _, _, _, _, _, rfl, hB7.le (by omega), hOw, good_emp hn4, hk1, hk2⟩ (fun i σ' H8 hi pv => ?_) (fun σ' H8 pv => ?_)
    · obtain ⟨s, b1, b2, o7, o8, o9, o10, o11, rfl, hB8, hO8, g, hb1, hb2⟩ := pv
      clear hOw hk1 hk2 hB7
      refine ⟨_, rfl, B, c, _, 9, rfl, hB8, by omega, by omega, by omega, fun q t hs body Ha hBa xa hq ht h4 hfive hb9 => ?_⟩
      have hnm : ∀ h, h ∈ hs → nameS h = true := fun h hh => five_ok h (hfive h hh)
      have kna := xa.kn hB8
      have hb1a := kna.bk hb1
      have hb2a := kna.bk hb2
      have hOa := hO8.m xa hOB hslB.1 hsoB.1
      refine ⟨_, rfl, _, rfl, _, rfl, O, sl, so, q, t, n, s, hs, body, cost, rfl, hOa, g, hq, ht, c2, c9, h4, by omega, hnm, fun U ws Hb xb hOb hU0 hUl hw => ?_⟩
      have knb := hOa.kn xb
      have hBb := hBa.s xb hslB hsoB
      refine ⟨U, _, rfl, .inl ⟨SqL.of hUl, fun d hd => ?_⟩⟩
      have ec := Ext.upd (o := .tup ws) hd
      have hdc : L2.upd Hb d (.tup ws) d = some (.tup ws) := upd_same
      have hBc := hBb.ext ec
      have hOc := hOb.ext ec
      have knc := knb.trans (Ext.kn ec)
      have hqc := knc q (.tup _) (fun ys z => by cases z) hq
      have htc := knc t (.tup _) (fun ys z => by cases z) ht
      have hb1c := knc.bk hb1a
      have hb2c := knc.bk hb2a
      have hwc := hw.ext ec
      have gc : Good n (hs.foldl step s) := good_fold g hnm
      obtain ⟨us, hus, hok, hpl, hbn⟩ := un_of (k := cost - 1) (b := body) g hnm
      have hfl : ∀ u ∈ us.map Un.v, ∀ v ∈ u, Fl v := fun u hu => by
        obtain ⟨x, hx, rfl⟩ := List.mem_map.mp hu
        exact u_fl (hok x hx)
      rw [hus] at hwc
      clear hw hUl hU0 hOb hBb hBa hOa xb xa kna knb knc hq ht hb1a hb2a hb1 hb2 hB8 hO8
      generalize L2.upd Hb d (.tup ws) = Hc at ec hdc hBc hOc hqc htc hb1c hb2c hwc ⊢
      clear ec hd
      refine ⟨_, rfl, _, rfl, _, rfl, wr_ok hb1c g hnm h4 (by omega) c2 c9 hqc htc fun q2 U2 b3 ws2 Hd ed hq2 hU2 hw2 hb3 => ?_⟩
      rw [hus] at hw2
      refine ⟨_, rfl, _, .ty "tuple", .type "tuple", .type "tuple", true, rfl, .ty _, .base (.tup hq2), kit_tt, _, rfl, ?_⟩
      refine iteF ⟨_, rfl, q2, _, rfl, .inr (SqT.of hq2), rfl, _, rfl, ?_⟩
      rw [decide_eq_true (show V.int (([V.ref U2, V.ref b3] : List V).length : Int) = V.int 2 from rfl)]
      have dU := Dp.tup (K := K) (SqT.of hU2) (hw2.dp hfl)
      have dd := Dp.tup (K := K) (SqT.of (ed _ _ hdc)) ((hwc.ext ed).dp hfl)
      refine iteF ⟨_, rfl, q2, _, (0 : Int), .ref U2, rfl, rfl, SqT.of hq2, atI_nat (j := 0) rfl, _, rfl, _, _, dU, dd, shp_tPt hfl, shp_tPt hfl, _, rfl, ?_⟩
      rw [eqv_tPt hfl]
      have hOd := hOc.ext ed
      refine iteF ⟨_, rfl, q2, _, (1 : Int), .ref b3, rfl, rfl, SqT.of hq2, atI_nat (j := 1) rfl, _, rfl, b3, O, sl, so, n, _, rfl, hb3, gc, hOd, fun He ee => ⟨_, rfl, ?_⟩⟩
      refine iteF ?_
      have hq2e := ee _ _ hq2
      refine ⟨_, rfl, q2, _, (1 : Int), .ref b3, rfl, rfl, SqT.of hq2e, atI_nat (j := 1) rfl, _, rfl, b3, O, sl, so, n, _, rfl, hb3.ext ee, gc, hOd.ext ee, fun Hf ef => ⟨_, rfl, ?_⟩⟩
      have ecf := (ed.trans ee).trans ef
      refine iteF ⟨_, rfl, _, rfl, _, rfl, wr_ok (hb1c.ext ecf) g hnm h4 (by omega) c2 c9 (ecf _ _ hqc) (ecf _ _ htc) fun q3 U3 b4 ws3 Hg eg hq3 hU3 hw3 hb4 => ?_⟩
      rw [hus] at hw3
      have edg := (ee.trans ef).trans eg
      have ecg := ed.trans edg
      refine ⟨_, rfl, true, ⟨q3, q2, _, _, [true, true], rfl, rfl, SqT.of hq3, SqT.of (edg _ _ hq2), rfl, rfl, fun i x y k hx hy hk => ?_, rfl⟩, fun Hh eh => ⟨_, rfl, ?_⟩⟩
      · match i, hx, hy, hk with
        | 0, hx, hy, hk =>
          cases hx
          cases hy
          cases hk
          exact .inl ⟨U3, U2, _, _, rfl, rfl, fun _ => rfl, .tup (SqT.of hU3) (hw3.dp hfl), .tup (SqT.of (edg _ _ hU2)) ((hw2.ext edg).dp hfl), shp_tPt hfl, shp_tPt hfl, (eqv_tPt hfl).symm⟩
        | 1, hx, hy, hk =>
          cases hx
          cases hy
          cases hk
          obtain ⟨dx3, ps3, po3, hb3', _, _⟩ := id hb4
          obtain ⟨dx6, ps6, po6, hb6', _, _⟩ := id (hb3.ext edg)
          exact .inr ⟨b4, b3, dx3, dx6, _, _, rfl, rfl, hb3', hb6', n, _, hb4, hb3.ext edg, gc, rfl⟩
        | i + 2, hx, hy, hk => cases hk
      refine iteF ?_
      have e2 := edg.trans eh
      have ech := ecg.trans eh
      have hq2h := e2 _ _ hq2
      have hb3h := hb3.ext e2
      have hqh := ech _ _ hqc
      have hth := ech _ _ htc
      have hdh := ech _ _ hdc
      have hb2h := hb2c.ext ech
      have hOh := hOc.ext ech
      have hBh := hBc.ext ech
      have hwh := hwc.ext ech
      clear hq2 hb3 hq3 hU3 hw3 hb4 hOd hqc htc hdc hb2c hb1c hOc hBc hwc dU dd hq2e ed ee ef eg eh ecf edg ecg e2 ech hU2 hw2
      have hul : us.length ≤ 1000 := by
        have h1 := congrArg List.length hus
        rw [List.length_map] at h1
        rw [← h1]
        exact una_len c9 h4 (by omega)
      refine ⟨_, rfl, _, rfl, rd_ok hb2h g hdh hwh hok hul hpl hbn fun q5 t5 hp5 b5 Hi ei hq5 ht5 hhp5 hb5 => ?_⟩
      have hq2i := ei _ _ hq2h
      have hb3i := hb3h.ext ei
      refine ⟨_, rfl, _, .ty "tuple", .type "tuple", .type "tuple", true, rfl, .ty _, .base (.tup hq5), kit_tt, _, rfl, ?_⟩
      refine iteF ⟨_, rfl, q5, _, rfl, .inr (SqT.of hq5), rfl, _, rfl, ?_⟩
      rw [decide_eq_true (show V.int (([V.ref t5, V.ref b5] : List V).length : Int) = V.int 2 from rfl)]
      refine iteF ⟨_, rfl, q5, _, (0 : Int), .ref t5, rfl, rfl, SqT.of hq5, atI_nat (j := 0) rfl, _, rfl, _, _, dp_let hnm ht5 hhp5, dp_let hnm (ei _ _ hqh) (ei _ _ hth), shp_let (fl_str hnm) _, shp_let (fl_str hnm) _, _, rfl, ?_⟩
      rw [eqv_let (fl_str hnm)]
      obtain ⟨dx5, ps5, po5, hb5', _, _⟩ := id hb5
      obtain ⟨dx3, ps3, po3, hb3', _, _⟩ := id hb3i
      refine iteF ⟨_, rfl, q5, _, (1 : Int), .ref b5, rfl, rfl, SqT.of hq5, atI_nat (j := 1) rfl, _, rfl, q2, _, (1 : Int), .ref b3, rfl, rfl, SqT.of hq2i, atI_nat (j := 1) rfl, b5, dx5, _, _, rfl, hb5', T.Book.tyOf hb3', T.Book.nfMe, b5, n, _, _, rfl, hb5, gc, .inl ⟨b3, n, _, rfl, hb3i, gc, _, rfl, _, rfl, ?_⟩⟩
      rw [decide_eq_true ⟨rfl, rfl⟩]
      refine iteF ?_
      refine ⟨_, rfl, q2, _, (1 : Int), .ref b3, rfl, rfl, SqT.of hq2i, atI_nat (j := 1) rfl, _, rfl, q5, _, (1 : Int), .ref b5, rfl, rfl, SqT.of hq5, atI_nat (j := 1) rfl, ?_⟩
      exact ⟨_, b3, b5, _, _, _, _, _, rfl, (hBh.ext ei).le (by omega), hOh.ext ei, gc, hb3i, hb5⟩
    · obtain ⟨s, b1, b2, o7, o8, o9, o10, o11, rfl, hB8, hO8, g, hb1, hb2⟩ := pv
      refine ⟨_, rfl, _, rfl, B, c, _, n, rfl, hB8, by omega, hn4, fun H9 hB9 x9 => ⟨_, rfl, ?_⟩⟩
      exact iteT ⟨_, rfl, _, rfl, B, c, b1, _, n, s, rfl, hB9, by omega, (x9.kn hB8).bk hb1, g, fun H' => q H'⟩
end
end K02

set_option Elab.async false
set_option maxRecDepth 100000
set_option maxHeartbeats 4000000
namespace K02
open PySem PySem.Spec PyProof.Rows L2
section
variable {P : Program} {w : World} {K : PySem.W.Frag} {mg : Str → Option Value} {base : Heap} {A : Ad}
theorem ok_x_BadLetter {f : Addr} {fd : FuncData} (F : Fun K "__init__" "BadLetter.__init__" s_BadLetter_init f fd) (T : Txt K mg A) : FnOk P w K mg base CX0 1 f fd ["self", "spot"] (spXI A.BadLetter "spot") := by
  refine F.ok sc_BadLetter_init (fun vs H Q E h => ?_) (fun cdv A' outer s H vs Q E hr h => ?_)
  · obtain ⟨a, y, rfl, _⟩ := h
    rfl
  · obtain ⟨a, y, rfl, ha, q⟩ := h
    refine ⟨_, pss_one (ps_ost (pv 0) (pv 1)), ?_⟩
    exact ⟨_, rfl, _, rfl, a, A.BadLetter, rfl, T.BadLetter.ox, T.BadLetter.noA, .inl ⟨ha, fun dx h1 h2 => q dx h1 h2⟩⟩
theorem ok_x_BadUnits {f : Addr} {fd : FuncData} (F : Fun K "__init__" "BadUnits.__init__" s_BadUnits_init f fd) (T : Txt K mg A) : FnOk P w K mg base CX0 1 f fd ["self", "value"] (spXI A.BadUnits "value") := by
  refine F.ok sc_BadUnits_init (fun vs H Q E h => ?_) (fun cdv A' outer s H vs Q E hr h => ?_)
  · obtain ⟨a, y, rfl, _⟩ := h
    rfl
  · obtain ⟨a, y, rfl, ha, q⟩ := h
    refine ⟨_, pss_one (ps_ost (pv 0) (pv 1)), ?_⟩
    exact ⟨_, rfl, _, rfl, a, A.BadUnits, rfl, T.BadUnits.ox, T.BadUnits.noA, .inl ⟨ha, fun dx h1 h2 => q dx h1 h2⟩⟩
end
end K02

set_option Elab.async false
set_option maxRecDepth 100000
set_option maxHeartbeats 4000000
namespace K52
open PySem PySem.Spec PyProof.Rows L2 L2H K02
section
variable {P : Program} {w : World} {K : PySem.W.Frag} {mg : Str → Option Value} {base : Heap} {A : Ad}
theorem kit_ref {B C : Addr} {b : Bool} (i : PySem.W.isClsIn K C = true) (t : PySem.W.typeIn K (.ref C) = some (.type "type")) (s : PySem.W.subIn K (.ref B) (.ref C) = some b) (ss : PySem.W.subIn K (.ref B) (.ref B) = some true) : PySem.W.kitOne K (.ref B) (.ref C) = some b := by
  by_cases h : B = C
  · subst h
    rw [ss] at s
    cases s
    exact if_pos (beq_self_eq_true _)
  · have e : ((PySem.W.clsIn K C).isSome && PySem.W.typeIn K (.ref C) == some (.type "type")) = true := by
      have h1 : (PySem.W.clsIn K C).isSome = true := i
      rw [h1, t]
      rfl
    show (if (Value.ref B == Value.ref C) = true then some true else if ((PySem.W.clsIn K C).isSome && PySem.W.typeIn K (.ref C) == some (.type "type")) = true then PySem.W.subIn K (.ref B) (.ref C) else none) = some b
    rw [if_pos e]
    have hne : ¬ ((Value.ref B == Value.ref C) = true) := fun z => by
      have z' := eq_of_beq z
      injection z' with z'
      exact h z'
    rw [if_neg hne]
    exact s
theorem exm_ref {B C : Addr} {b : Bool} (x : PySem.W.subIn K (.ref C) (.type "BaseException") = some true) (i : PySem.W.isClsIn K C = true) (t : PySem.W.typeIn K (.ref C) = some (.type "type")) (s : PySem.W.subIn K (.ref B) (.ref C) = some b) : PySem.W.exmOne K (.ref B) (.ref C) = some b := by
  unfold PySem.W.exmOne PySem.W.kitCls
  have i' : (PySem.W.clsIn K C).isSome = true := i
  rw [x]
  dsimp only
  rw [i', t, s]
  rfl
theorem ve_one {W : Addr} : PySem.HandSPX.refsVE [.ref W, .type "ValueError", .type "Exception", .type "BaseException", .type "object"] = true := by
  show PySem.HandSPX.refsVE [.type "ValueError", .type "Exception", .type "BaseException", .type "object"] = true
  decide +kernel
theorem law_ok (T : Txt K mg A) (D_is_integer : DefAt K mg "is_integer" s_is_integer pm_is_integer) (D_is_between : DefAt K mg "is_between" s_is_between pm_is_between) (D_is_index : DefAt K mg "is_index" s_is_index pm_is_index) (D_is_list : DefAt K mg "is_list" s_is_list pm_is_list) (D_is_name : DefAt K mg "is_name" s_is_name pm_is_name) (D_is_tuple_of : DefAt K mg "is_tuple_of" s_is_tuple_of pm_is_tuple_of) (D_is_told_by : DefAt K mg "is_told_by" s_is_told_by pm_is_told_by) (D_is_letter : DefAt K mg "is_letter" s_is_letter pm_is_letter) (D_check_heads : DefAt K mg "check_heads" s_check_heads pm_check_heads) (D_is_word : DefAt K mg "is_word" s_is_word pm_is_word) (D_check_places : DefAt K mg "check_places" s_check_places pm_check_places) (D_next_of : DefAt K mg "next_of" s_next_of pm_next_of) (D_slots_behind : DefAt K mg "slots_behind" s_slots_behind pm_slots_behind) (D_read_head : DefAt K mg "read_head" s_read_head pm_read_head) (D_check_book : DefAt K mg "check_book" s_check_book pm_check_book) (D_is_unit : DefAt K mg "is_unit" s_is_unit pm_is_unit) (D_are_units : DefAt K mg "are_units" s_are_units pm_are_units) (D_written : DefAt K mg "written" s_written pm_written) (D_read_letter : DefAt K mg "read_letter" s_read_letter pm_read_letter) (D__law_bag : DefAt K mg "_law_bag" s__law_bag pm__law_bag) (D__law_draw : DefAt K mg "_law_draw" s__law_draw pm__law_draw) (D__law_letter : DefAt K mg "_law_letter" s__law_letter pm__law_letter) (D__law_use : DefAt K mg "_law_use" s__law_use pm__law_use) (D__law_units : DefAt K mg "_law_units" s__law_units pm__law_units) (D__law_unit : DefAt K mg "_law_unit" s__law_unit pm__law_unit) (D__law_holds : DefAt K mg "_law_holds" s__law_holds pm__law_holds) (D__law_same_order : DefAt K mg "_law_same_order" s__law_same_order pm__law_same_order) (D__law_refused : DefAt K mg "_law_refused" s__law_refused pm__law_refused) (D__law_free : DefAt K mg "_law_free" s__law_free pm__law_free) (D__law_odd : DefAt K mg "_law_odd" s__law_odd pm__law_odd)
    (M_Book_held : MethAt K A.Book "held" "Book.held" s_Book_held pm_Book_held) (M_Book_oldest_first : MethAt K A.Book "oldest_first" "Book.oldest_first" s_Book_oldest_first pm_Book_oldest_first) (M_Book_place_of : MethAt K A.Book "place_of" "Book.place_of" s_Book_place_of pm_Book_place_of) (M_Book_used : MethAt K A.Book "used" "Book.used" s_Book_used pm_Book_used) (M_Book_word_for : MethAt K A.Book "word_for" "Book.word_for" s_Book_word_for pm_Book_word_for) (M_Book_contains : MethAt K A.Book "__contains__" "Book.__contains__" s_Book_contains pm_Book_contains) (M_Book_len : MethAt K A.Book "__len__" "Book.__len__" s_Book_len pm_Book_len) (M_Book_eq : MethAt K A.Book "__eq__" "Book.__eq__" s_Book_eq pm_Book_eq)
    {fi : Addr} {fdi : FuncData} (FI : FunD K "__init__" "Book.__init__" (defArgs s_Book_init) (defBody s_Book_init) (defScope s_Book_init) [.ref A.T0] [] fi fdi) (MI : Mk K A.Book fi) (B4 : Binds K fdi pm_Book_init []) {d3 : List Value} (V3 : Vals [.ref A.T0] d3) (B3 : Binds K fdi pm_Book_init d3)
    {f : Addr} {fd : FuncData} (F : Fun K "law" "law" s_law f fd) : FnOk P w K mg base CX0 11 f fd pm_law (spLaw K) := by
  have X_BadPart : XCls P w K mg base "BadPart" "part" A.BadPart := T.BadPart.cls fun _ _ F => ok_xp F T
  have X_BadLetter : XCls P w K mg base "BadLetter" "spot" A.BadLetter := T.BadLetter.cls fun _ _ F => ok_x_BadLetter F T
  have X_BadName : XCls P w K mg base "BadName" "name" A.BadName := T.BadName.cls fun _ _ F => ok_xn F T
  have X_BadHead : XCls P w K mg base "BadHead" "index" A.BadHead := T.BadHead.cls fun _ _ F => ok_xh F T
  have X_BadUnits : XCls P w K mg base "BadUnits" "value" A.BadUnits := T.BadUnits.cls fun _ _ F => ok_x_BadUnits F T

  have O_is_integer : Own P w K mg base CX0 "is_integer" 1 pm_is_integer (spInteger K) := D_is_integer.own fun f fd F => ok_integer F T
  have O_is_between : Own P w K mg base CX0 "is_between" 2 pm_is_between (spBetween K) := D_is_between.own fun f fd F => ok_between F O_is_integer
  have O_is_index : Own P w K mg base CX0 "is_index" 3 pm_is_index (spIndex K) := D_is_index.own fun f fd F => ok_index F O_is_between
  have O_is_list : Own P w K mg base CX0 "is_list" 1 pm_is_list (spIsList K) := D_is_list.own fun f fd F => ok_isList F T
  have O_is_tuple_of : Own P w K mg base CX0 "is_tuple_of" 1 pm_is_tuple_of (spTupleOf K) := D_is_tuple_of.own fun f fd F => ok_tupleOf F T
  have O_is_name : Own P w K mg base CX0 "is_name" 1 pm_is_name (spName K) := D_is_name.own fun f fd F => ok_name F T
  have O_is_told_by : Own P w K mg base CX0 "is_told_by" 2 pm_is_told_by (spTold K) := D_is_told_by.own fun f fd F => ok_told F T O_is_tuple_of
  have O_is_word : Own P w K mg base CX0 "is_word" 4 pm_is_word (spWord K) := D_is_word.own fun f fd F => ok_word F T O_is_told_by O_is_index O_is_name
  have O_check_heads : Own P w K mg base (L2.CX P w) "check_heads" 3 pm_check_heads (spHeads K A) := D_check_heads.own fun f fd F => ok_heads F T O_is_list O_is_name X_BadHead
  have O_check_places : Own P w K mg base (L2.CX P w) "check_places" 4 pm_check_places (spPlaces K A) := D_check_places.own fun f fd F => ok_places F T O_is_between X_BadPart
  have O_next_of : Own P w K mg base CX0 "next_of" 1 pm_next_of (spNext K) := D_next_of.own fun f fd F => ok_next F T
  have O_slots_behind : Own P w K mg base CX0 "slots_behind" 2 pm_slots_behind (spBehind K) := D_slots_behind.own fun f fd F => ok_behind F T O_next_of
  have GI_Book : FnOk P w K mg base (L2.CX P w) 5 fi fdi pm_Book_init (spBookInit K A) := ok_bookInit FI T O_check_places O_check_heads O_slots_behind
  have O_Book1 : OwnCD P w K mg base (L2.CX P w) "Book" A.Book 5 pm_Book_init (spBookInit K A) [.ref A.T0] := ⟨fi, fdi, d3, GI_Book, MI, T.Book.gC, B3, V3⟩
  have O_Book : OwnC P w K mg base (L2.CX P w) "Book" A.Book 5 pm_Book_init (spBookInit K A) := ⟨fi, fdi, GI_Book, MI, T.Book.gC, B4⟩
  have O_Book_held : OwnM P w K mg base CX0 A.Book "held" 1 pm_Book_held (spHeld K A) := M_Book_held.own fun f fd F => ok_held F T
  have O_Book_oldest_first : OwnM P w K mg base CX0 A.Book "oldest_first" 1 pm_Book_oldest_first (spOldest K A) := M_Book_oldest_first.own fun f fd F => ok_oldest F T
  have O_Book_contains : OwnM P w K mg base CX0 A.Book "__contains__" 1 pm_Book_contains (spIn K A) := M_Book_contains.own fun f fd F => ok_in F T
  have O_Book_place_of : OwnM P w K mg base CX0 A.Book "place_of" 2 pm_Book_place_of (spPlaceOf K A) := M_Book_place_of.own fun f fd F => ok_placeOf F T O_Book_contains
  have O_Book_len : OwnM P w K mg base CX0 A.Book "__len__" 1 pm_Book_len (spLen K A) := M_Book_len.own fun f fd F => ok_len F T
  have O_Book_eq : OwnM P w K mg base CX0 A.Book "__eq__" 1 pm_Book_eq (spEq K A) := M_Book_eq.own fun f fd F => ok_eq F T
  have O_Book_used : OwnM P w K mg base (L2.CX P w) A.Book "used" 7 pm_Book_used (spUsed K A) := M_Book_used.own fun f fd F => ok_used F T O_is_name X_BadName O_Book
  have O_Book_word_for : OwnM P w K mg base (L2.CX P w) A.Book "word_for" 4 pm_Book_word_for (spWordFor K A) := M_Book_word_for.own fun f fd F => ok_wordFor F T O_is_name X_BadName O_Book_place_of
  have O_read_head : Own P w K mg base CX0 "read_head" 5 pm_read_head (spReadHead K A) := D_read_head.own fun f fd F => ok_readHead F T O_is_word O_Book_held
  have O_check_book : Own P w K mg base (L2.CX P w) "check_book" 3 pm_check_book (spCheckBook K A) := D_check_book.own fun f fd F => ok_checkBook F T X_BadPart
  have O_is_letter : Own P w K mg base CX0 "is_letter" 3 pm_is_letter (spLetter K) := D_is_letter.own fun f fd F => ok_letter F T O_is_tuple_of O_is_name O_is_between
  have O_is_unit : Own P w K mg base CX0 "is_unit" 5 pm_is_unit (spUnit K) := D_is_unit.own fun f fd F => ok_unit F O_is_told_by O_is_word
  have O_are_units : Own P w K mg base CX0 "are_units" 6 pm_are_units (spUnits K) := D_are_units.own fun f fd F => ok_units F T O_is_unit
  have O_written : Own P w K mg base (L2.CX P w) "written" 8 pm_written (spWritten K A) := D_written.own fun f fd F => ok_written F T O_is_letter O_check_book O_is_between O_Book_word_for O_Book_used X_BadLetter X_BadPart
  have O_read_letter : Own P w K mg base (L2.CX P w) "read_letter" 8 pm_read_letter (spReadL K A) := D_read_letter.own fun f fd F => ok_readL F T O_are_units O_check_book O_is_word O_read_head O_Book_used X_BadUnits
  have O__law_bag : Own P w K mg base CX0 "_law_bag" 1 pm__law_bag (spBag K) := D__law_bag.own fun f fd F => ok_bag F T
  have O__law_draw : Own P w K mg base CX0 "_law_draw" 1 pm__law_draw spDraw := D__law_draw.own fun f fd F => ok_draw F T
  have O__law_letter : Own P w K mg base CX0 "_law_letter" 2 pm__law_letter spLLetter := D__law_letter.own fun f fd F => ok_lletter F T O__law_draw
  have O__law_use : Own P w K mg base CX0 "_law_use" 1 pm__law_use spUse := D__law_use.own fun f fd F => ok_use F T
  have O__law_units : Own P w K mg base CX0 "_law_units" 2 pm__law_units (spUnitsL K) := D__law_units.own fun f fd F => ok_unitsL F T O__law_use
  have O__law_unit : Own P w K mg base CX0 "_law_unit" 2 pm__law_unit spUnitD := D__law_unit.own fun f fd F => ok_unitD F T O__law_draw
  have O__law_holds : Own P w K mg base CX0 "_law_holds" 2 pm__law_holds (spHolds K A) := D__law_holds.own fun f fd F => ok_holds F T O_Book_held O_Book_oldest_first
  have O__law_same_order : Own P w K mg base CX0 "_law_same_order" 2 pm__law_same_order (spSameO K A) := D__law_same_order.own fun f fd F => ok_sameO F T O_Book_held O_Book_oldest_first
  have O__law_refused : Own P w K mg base CX0 "_law_refused" 9 pm__law_refused (spRefd K A) := D__law_refused.own fun f fd F => ok_refd F T O_written O_read_letter
  have O__law_odd : Own P w K mg base CX0 "_law_odd" 10 pm__law_odd (spOdd K A) := D__law_odd.own fun f fd F => ok_odd F T O__law_draw O__law_refused
  have O__law_free : Own P w K mg base CX0 "_law_free" 9 pm__law_free (spFree K) := D__law_free.own fun f fd F => ok_free F T O__law_draw O__law_unit O__law_use O_read_letter O_Book1 O__law_holds O__law_same_order
  exact ok_law F T O__law_bag O__law_draw O_Book1 O__law_letter O__law_units O_written O__law_holds O__law_same_order O_Book_eq O_read_letter O__law_free O__law_odd
end
theorem all_mk {P : Program} {w : World} {K : PySem.W.Frag} {h : Heap} {mg : Str → Option Value} {fa  Td AT0 ABadPart ABadLetter ABadName ABadHead ABadUnits AWholeError ABook f_is_integer f_is_between f_is_index f_is_list f_is_name f_is_tuple_of f_is_told_by f_is_letter f_check_heads f_is_word f_check_places f_next_of f_slots_behind f_read_head f_check_book f_is_unit f_are_units f_written f_read_letter f__law_bag f__law_draw f__law_letter f__law_use f__law_units f__law_unit f__law_holds f__law_same_order f__law_refused f__law_free f__law_odd f_law f_BadPart_init f_BadLetter_init f_BadName_init f_BadHead_init f_BadUnits_init f_Book_init f_Book_held f_Book_oldest_first f_Book_place_of f_Book_used f_Book_word_for f_Book_contains f_Book_len f_Book_eq : Addr} (X : K.In h) (G : h.Ns mainGlobals mg) (hfa : mg "law" = some (.ref fa))
    {od_is_integer an_is_integer od_is_between an_is_between od_is_index an_is_index od_is_list an_is_list od_is_name an_is_name od_is_tuple_of an_is_tuple_of od_is_told_by an_is_told_by od_is_letter an_is_letter od_check_heads an_check_heads od_is_word an_is_word od_check_places an_check_places od_next_of an_next_of od_slots_behind an_slots_behind od_read_head an_read_head od_check_book an_check_book od_is_unit an_is_unit od_are_units an_are_units od_written an_written od_read_letter an_read_letter od__law_bag an__law_bag od__law_draw an__law_draw od__law_letter an__law_letter od__law_use an__law_use od__law_units an__law_units od__law_unit an__law_unit od__law_holds an__law_holds od__law_same_order an__law_same_order od__law_refused an__law_refused od__law_free an__law_free od__law_odd an__law_odd od_law an_law od_BadPart_init an_BadPart_init od_BadLetter_init an_BadLetter_init od_BadName_init an_BadName_init od_BadHead_init an_BadHead_init od_BadUnits_init an_BadUnits_init od_Book_init an_Book_init od_Book_held an_Book_held od_Book_oldest_first an_Book_oldest_first od_Book_place_of an_Book_place_of od_Book_used an_Book_used od_Book_word_for an_Book_word_for od_Book_contains an_Book_contains od_Book_len an_Book_len od_Book_eq an_Book_eq ddt edt : Option Addr} {sl_is_integer sl_is_between sl_is_index sl_is_list sl_is_name sl_is_tuple_of sl_is_told_by sl_is_letter sl_check_heads sl_is_word sl_check_places sl_next_of sl_slots_behind sl_read_head sl_check_book sl_is_unit sl_are_units sl_written sl_read_letter sl__law_bag sl__law_draw sl__law_letter sl__law_use sl__law_units sl__law_unit sl__law_holds sl__law_same_order sl__law_refused sl__law_free sl__law_odd sl_law sl_BadPart_init sl_BadLetter_init sl_BadName_init sl_BadHead_init sl_BadUnits_init sl_Book_init sl_Book_held sl_Book_oldest_first sl_Book_place_of sl_Book_used sl_Book_word_for sl_Book_contains sl_Book_len sl_Book_eq dsl esl : Array (Option Value)} {oc_is_integer kV_is_integer dc_is_integer pm_is_integer_ cd_is_integer ct_is_integer oc_is_between kV_is_between dc_is_between pm_is_between_ cd_is_between ct_is_between oc_is_index kV_is_index dc_is_index pm_is_index_ cd_is_index ct_is_index oc_is_list kV_is_list dc_is_list pm_is_list_ cd_is_list ct_is_list oc_is_name kV_is_name dc_is_name pm_is_name_ cd_is_name ct_is_name oc_is_tuple_of kV_is_tuple_of dc_is_tuple_of pm_is_tuple_of_ cd_is_tuple_of ct_is_tuple_of oc_is_told_by kV_is_told_by dc_is_told_by pm_is_told_by_ cd_is_told_by ct_is_told_by oc_is_letter kV_is_letter dc_is_letter pm_is_letter_ cd_is_letter ct_is_letter oc_check_heads kV_check_heads dc_check_heads pm_check_heads_ cd_check_heads ct_check_heads oc_is_word kV_is_word dc_is_word pm_is_word_ cd_is_word ct_is_word oc_check_places kV_check_places dc_check_places pm_check_places_ cd_check_places ct_check_places oc_next_of kV_next_of dc_next_of pm_next_of_ cd_next_of ct_next_of oc_slots_behind kV_slots_behind dc_slots_behind pm_slots_behind_ cd_slots_behind ct_slots_behind oc_read_head kV_read_head dc_read_head pm_read_head_ cd_read_head ct_read_head oc_check_book kV_check_book dc_check_book pm_check_book_ cd_check_book ct_check_book oc_is_unit kV_is_unit dc_is_unit pm_is_unit_ cd_is_unit ct_is_unit oc_are_units kV_are_units dc_are_units pm_are_units_ cd_are_units ct_are_units oc_written kV_written dc_written pm_written_ cd_written ct_written oc_read_letter kV_read_letter dc_read_letter pm_read_letter_ cd_read_letter ct_read_letter oc__law_bag kV__law_bag dc__law_bag pm__law_bag_ cd__law_bag ct__law_bag oc__law_draw kV__law_draw dc__law_draw pm__law_draw_ cd__law_draw ct__law_draw oc__law_letter kV__law_letter dc__law_letter pm__law_letter_ cd__law_letter ct__law_letter oc__law_use kV__law_use dc__law_use pm__law_use_ cd__law_use ct__law_use oc__law_units kV__law_units dc__law_units pm__law_units_ cd__law_units ct__law_units oc__law_unit kV__law_unit dc__law_unit pm__law_unit_ cd__law_unit ct__law_unit oc__law_holds kV__law_holds dc__law_holds pm__law_holds_ cd__law_holds ct__law_holds oc__law_same_order kV__law_same_order dc__law_same_order pm__law_same_order_ cd__law_same_order ct__law_same_order oc__law_refused kV__law_refused dc__law_refused pm__law_refused_ cd__law_refused ct__law_refused oc__law_free kV__law_free dc__law_free pm__law_free_ cd__law_free ct__law_free oc__law_odd kV__law_odd dc__law_odd pm__law_odd_ cd__law_odd ct__law_odd oc_law kV_law dc_law pm_law_ cd_law ct_law oc_BadPart_init kV_BadPart_init dc_BadPart_init pm_BadPart_init_ cd_BadPart_init ct_BadPart_init oc_BadLetter_init kV_BadLetter_init dc_BadLetter_init pm_BadLetter_init_ cd_BadLetter_init ct_BadLetter_init oc_BadName_init kV_BadName_init dc_BadName_init pm_BadName_init_ cd_BadName_init ct_BadName_init oc_BadHead_init kV_BadHead_init dc_BadHead_init pm_BadHead_init_ cd_BadHead_init ct_BadHead_init oc_BadUnits_init kV_BadUnits_init dc_BadUnits_init pm_BadUnits_init_ cd_BadUnits_init ct_BadUnits_init oc_Book_init kV_Book_init dc_Book_init pm_Book_init_ cd_Book_init ct_Book_init oc_Book_held kV_Book_held dc_Book_held pm_Book_held_ cd_Book_held ct_Book_held oc_Book_oldest_first kV_Book_oldest_first dc_Book_oldest_first pm_Book_oldest_first_ cd_Book_oldest_first ct_Book_oldest_first oc_Book_place_of kV_Book_place_of dc_Book_place_of pm_Book_place_of_ cd_Book_place_of ct_Book_place_of oc_Book_used kV_Book_used dc_Book_used pm_Book_used_ cd_Book_used ct_Book_used oc_Book_word_for kV_Book_word_for dc_Book_word_for pm_Book_word_for_ cd_Book_word_for ct_Book_word_for oc_Book_contains kV_Book_contains dc_Book_contains pm_Book_contains_ cd_Book_contains ct_Book_contains oc_Book_len kV_Book_len dc_Book_len pm_Book_len_ cd_Book_len ct_Book_len oc_Book_eq kV_Book_eq dc_Book_eq pm_Book_eq_ cd_Book_eq ct_Book_eq dcl : Value} {t_MOST_PLACES t_ALPHABET t_MOST_HEADS t_MOST_BODY t_LEAST_COST t_MOST_COST : Tok} {dn en : Nat}
    {ABODY : Addr} {dt_BODY : Option Addr} {sl_BODY : Array (Option Value)} {n_BODY : Nat} {tk_BODY_0 : Tok}
    {AREST : Addr} {dt_REST : Option Addr} {sl_REST : Array (Option Value)} {n_REST : Nat} {tk_REST_0 : Tok}
    {xBadPart_nm xBadPart_q : Str} {xBadPart_N : Addr} {xBadPart_bs : List Value} {xBadPart_sn : List Str} {xBadPart_sub : List Value} {xBadPart_ab : Bool} {xBadPart_col : Option Bool} {xBadPart_dd : Option Addr} {xBadPart_m0 xBadPart_m1 xBadPart_m2 xBadPart_m3 xBadPart_m5 : Option Value}
    {xBadLetter_nm xBadLetter_q : Str} {xBadLetter_N : Addr} {xBadLetter_bs : List Value} {xBadLetter_sn : List Str} {xBadLetter_sub : List Value} {xBadLetter_ab : Bool} {xBadLetter_col : Option Bool} {xBadLetter_dd : Option Addr} {xBadLetter_m0 xBadLetter_m1 xBadLetter_m2 xBadLetter_m3 xBadLetter_m5 : Option Value}
    {xBadName_nm xBadName_q : Str} {xBadName_N : Addr} {xBadName_bs : List Value} {xBadName_sn : List Str} {xBadName_sub : List Value} {xBadName_ab : Bool} {xBadName_col : Option Bool} {xBadName_dd : Option Addr} {xBadName_m0 xBadName_m1 xBadName_m2 xBadName_m3 xBadName_m5 : Option Value}
    {xBadHead_nm xBadHead_q : Str} {xBadHead_N : Addr} {xBadHead_bs : List Value} {xBadHead_sn : List Str} {xBadHead_sub : List Value} {xBadHead_ab : Bool} {xBadHead_col : Option Bool} {xBadHead_dd : Option Addr} {xBadHead_m0 xBadHead_m1 xBadHead_m2 xBadHead_m3 xBadHead_m5 : Option Value}
    {xBadUnits_nm xBadUnits_q : Str} {xBadUnits_N : Addr} {xBadUnits_bs : List Value} {xBadUnits_sn : List Str} {xBadUnits_sub : List Value} {xBadUnits_ab : Bool} {xBadUnits_col : Option Bool} {xBadUnits_dd : Option Addr} {xBadUnits_m0 xBadUnits_m1 xBadUnits_m2 xBadUnits_m3 xBadUnits_m5 : Option Value}
    (g_BadPart : PySem.W.nsIn K mainGlobals "BadPart" = some (some (.ref ABadPart)))
    (g_BadLetter : PySem.W.nsIn K mainGlobals "BadLetter" = some (some (.ref ABadLetter)))
    (g_BadName : PySem.W.nsIn K mainGlobals "BadName" = some (some (.ref ABadName)))
    (g_BadHead : PySem.W.nsIn K mainGlobals "BadHead" = some (some (.ref ABadHead)))
    (g_BadUnits : PySem.W.nsIn K mainGlobals "BadUnits" = some (some (.ref ABadUnits)))
    (g_WholeError : PySem.W.nsIn K mainGlobals "WholeError" = some (some (.ref AWholeError)))
    (g_Book : PySem.W.nsIn K mainGlobals "Book" = some (some (.ref ABook)))
    (a_is_integer : PySem.W.nsIn K mainGlobals "is_integer" = some (some (.ref f_is_integer)))
    (l_is_integer : K.lookup f_is_integer = some ⟨oc_is_integer, od_is_integer, .func (PySem.W.fnOf "is_integer" "is_integer" (defArgs s_is_integer) (defBody s_is_integer) (defScope s_is_integer) .none kV_is_integer dc_is_integer pm_is_integer_ an_is_integer cd_is_integer ct_is_integer), sl_is_integer⟩)
    (c_is_integer : PySem.W.codeIn K cd_is_integer "is_integer" = true)
    (k_is_integer : PySem.W.keepIn K (.ref f_is_integer) = true)
    (a_is_between : PySem.W.nsIn K mainGlobals "is_between" = some (some (.ref f_is_between)))
    (l_is_between : K.lookup f_is_between = some ⟨oc_is_between, od_is_between, .func (PySem.W.fnOf "is_between" "is_between" (defArgs s_is_between) (defBody s_is_between) (defScope s_is_between) .none kV_is_between dc_is_between pm_is_between_ an_is_between cd_is_between ct_is_between), sl_is_between⟩)
    (c_is_between : PySem.W.codeIn K cd_is_between "is_between" = true)
    (k_is_between : PySem.W.keepIn K (.ref f_is_between) = true)
    (a_is_index : PySem.W.nsIn K mainGlobals "is_index" = some (some (.ref f_is_index)))
    (l_is_index : K.lookup f_is_index = some ⟨oc_is_index, od_is_index, .func (PySem.W.fnOf "is_index" "is_index" (defArgs s_is_index) (defBody s_is_index) (defScope s_is_index) .none kV_is_index dc_is_index pm_is_index_ an_is_index cd_is_index ct_is_index), sl_is_index⟩)
    (c_is_index : PySem.W.codeIn K cd_is_index "is_index" = true)
    (k_is_index : PySem.W.keepIn K (.ref f_is_index) = true)
    (a_is_list : PySem.W.nsIn K mainGlobals "is_list" = some (some (.ref f_is_list)))
    (l_is_list : K.lookup f_is_list = some ⟨oc_is_list, od_is_list, .func (PySem.W.fnOf "is_list" "is_list" (defArgs s_is_list) (defBody s_is_list) (defScope s_is_list) .none kV_is_list dc_is_list pm_is_list_ an_is_list cd_is_list ct_is_list), sl_is_list⟩)
    (c_is_list : PySem.W.codeIn K cd_is_list "is_list" = true)
    (k_is_list : PySem.W.keepIn K (.ref f_is_list) = true)
    (a_is_name : PySem.W.nsIn K mainGlobals "is_name" = some (some (.ref f_is_name)))
    (l_is_name : K.lookup f_is_name = some ⟨oc_is_name, od_is_name, .func (PySem.W.fnOf "is_name" "is_name" (defArgs s_is_name) (defBody s_is_name) (defScope s_is_name) .none kV_is_name dc_is_name pm_is_name_ an_is_name cd_is_name ct_is_name), sl_is_name⟩)
    (c_is_name : PySem.W.codeIn K cd_is_name "is_name" = true)
    (k_is_name : PySem.W.keepIn K (.ref f_is_name) = true)
    (a_is_tuple_of : PySem.W.nsIn K mainGlobals "is_tuple_of" = some (some (.ref f_is_tuple_of)))
    (l_is_tuple_of : K.lookup f_is_tuple_of = some ⟨oc_is_tuple_of, od_is_tuple_of, .func (PySem.W.fnOf "is_tuple_of" "is_tuple_of" (defArgs s_is_tuple_of) (defBody s_is_tuple_of) (defScope s_is_tuple_of) .none kV_is_tuple_of dc_is_tuple_of pm_is_tuple_of_ an_is_tuple_of cd_is_tuple_of ct_is_tuple_of), sl_is_tuple_of⟩)
    (c_is_tuple_of : PySem.W.codeIn K cd_is_tuple_of "is_tuple_of" = true)
    (k_is_tuple_of : PySem.W.keepIn K (.ref f_is_tuple_of) = true)
    (a_is_told_by : PySem.W.nsIn K mainGlobals "is_told_by" = some (some (.ref f_is_told_by)))
    (l_is_told_by : K.lookup f_is_told_by = some ⟨oc_is_told_by, od_is_told_by, .func (PySem.W.fnOf "is_told_by" "is_told_by" (defArgs s_is_told_by) (defBody s_is_told_by) (defScope s_is_told_by) .none kV_is_told_by dc_is_told_by pm_is_told_by_ an_is_told_by cd_is_told_by ct_is_told_by), sl_is_told_by⟩)
    (c_is_told_by : PySem.W.codeIn K cd_is_told_by "is_told_by" = true)
    (k_is_told_by : PySem.W.keepIn K (.ref f_is_told_by) = true)
    (a_is_letter : PySem.W.nsIn K mainGlobals "is_letter" = some (some (.ref f_is_letter)))
    (l_is_letter : K.lookup f_is_letter = some ⟨oc_is_letter, od_is_letter, .func (PySem.W.fnOf "is_letter" "is_letter" (defArgs s_is_letter) (defBody s_is_letter) (defScope s_is_letter) .none kV_is_letter dc_is_letter pm_is_letter_ an_is_letter cd_is_letter ct_is_letter), sl_is_letter⟩)
    (c_is_letter : PySem.W.codeIn K cd_is_letter "is_letter" = true)
    (k_is_letter : PySem.W.keepIn K (.ref f_is_letter) = true)
    (a_check_heads : PySem.W.nsIn K mainGlobals "check_heads" = some (some (.ref f_check_heads)))
    (l_check_heads : K.lookup f_check_heads = some ⟨oc_check_heads, od_check_heads, .func (PySem.W.fnOf "check_heads" "check_heads" (defArgs s_check_heads) (defBody s_check_heads) (defScope s_check_heads) .none kV_check_heads dc_check_heads pm_check_heads_ an_check_heads cd_check_heads ct_check_heads), sl_check_heads⟩)
    (c_check_heads : PySem.W.codeIn K cd_check_heads "check_heads" = true)
    (k_check_heads : PySem.W.keepIn K (.ref f_check_heads) = true)
    (a_is_word : PySem.W.nsIn K mainGlobals "is_word" = some (some (.ref f_is_word)))
    (l_is_word : K.lookup f_is_word = some ⟨oc_is_word, od_is_word, .func (PySem.W.fnOf "is_word" "is_word" (defArgs s_is_word) (defBody s_is_word) (defScope s_is_word) .none kV_is_word dc_is_word pm_is_word_ an_is_word cd_is_word ct_is_word), sl_is_word⟩)
    (c_is_word : PySem.W.codeIn K cd_is_word "is_word" = true)
    (k_is_word : PySem.W.keepIn K (.ref f_is_word) = true)
    (a_check_places : PySem.W.nsIn K mainGlobals "check_places" = some (some (.ref f_check_places)))
    (l_check_places : K.lookup f_check_places = some ⟨oc_check_places, od_check_places, .func (PySem.W.fnOf "check_places" "check_places" (defArgs s_check_places) (defBody s_check_places) (defScope s_check_places) .none kV_check_places dc_check_places pm_check_places_ an_check_places cd_check_places ct_check_places), sl_check_places⟩)
    (c_check_places : PySem.W.codeIn K cd_check_places "check_places" = true)
    (k_check_places : PySem.W.keepIn K (.ref f_check_places) = true)
    (a_next_of : PySem.W.nsIn K mainGlobals "next_of" = some (some (.ref f_next_of)))
    (l_next_of : K.lookup f_next_of = some ⟨oc_next_of, od_next_of, .func (PySem.W.fnOf "next_of" "next_of" (defArgs s_next_of) (defBody s_next_of) (defScope s_next_of) .none kV_next_of dc_next_of pm_next_of_ an_next_of cd_next_of ct_next_of), sl_next_of⟩)
    (c_next_of : PySem.W.codeIn K cd_next_of "next_of" = true)
    (k_next_of : PySem.W.keepIn K (.ref f_next_of) = true)
    (a_slots_behind : PySem.W.nsIn K mainGlobals "slots_behind" = some (some (.ref f_slots_behind)))
    (l_slots_behind : K.lookup f_slots_behind = some ⟨oc_slots_behind, od_slots_behind, .func (PySem.W.fnOf "slots_behind" "slots_behind" (defArgs s_slots_behind) (defBody s_slots_behind) (defScope s_slots_behind) .none kV_slots_behind dc_slots_behind pm_slots_behind_ an_slots_behind cd_slots_behind ct_slots_behind), sl_slots_behind⟩)
    (c_slots_behind : PySem.W.codeIn K cd_slots_behind "slots_behind" = true)
    (k_slots_behind : PySem.W.keepIn K (.ref f_slots_behind) = true)
    (a_read_head : PySem.W.nsIn K mainGlobals "read_head" = some (some (.ref f_read_head)))
    (l_read_head : K.lookup f_read_head = some ⟨oc_read_head, od_read_head, .func (PySem.W.fnOf "read_head" "read_head" (defArgs s_read_head) (defBody s_read_head) (defScope s_read_head) .none kV_read_head dc_read_head pm_read_head_ an_read_head cd_read_head ct_read_head), sl_read_head⟩)
    (c_read_head : PySem.W.codeIn K cd_read_head "read_head" = true)
    (k_read_head : PySem.W.keepIn K (.ref f_read_head) = true)
    (a_check_book : PySem.W.nsIn K mainGlobals "check_book" = some (some (.ref f_check_book)))
    (l_check_book : K.lookup f_check_book = some ⟨oc_check_book, od_check_book, .func (PySem.W.fnOf "check_book" "check_book" (defArgs s_check_book) (defBody s_check_book) (defScope s_check_book) .none kV_check_book dc_check_book pm_check_book_ an_check_book cd_check_book ct_check_book), sl_check_book⟩)
    (c_check_book : PySem.W.codeIn K cd_check_book "check_book" = true)
    (k_check_book : PySem.W.keepIn K (.ref f_check_book) = true)
    (a_is_unit : PySem.W.nsIn K mainGlobals "is_unit" = some (some (.ref f_is_unit)))
    (l_is_unit : K.lookup f_is_unit = some ⟨oc_is_unit, od_is_unit, .func (PySem.W.fnOf "is_unit" "is_unit" (defArgs s_is_unit) (defBody s_is_unit) (defScope s_is_unit) .none kV_is_unit dc_is_unit pm_is_unit_ an_is_unit cd_is_unit ct_is_unit), sl_is_unit⟩)
    (c_is_unit : PySem.W.codeIn K cd_is_unit "is_unit" = true)
    (k_is_unit : PySem.W.keepIn K (.ref f_is_unit) = true)
    (a_are_units : PySem.W.nsIn K mainGlobals "are_units" = some (some (.ref f_are_units)))
    (l_are_units : K.lookup f_are_units = some ⟨oc_are_units, od_are_units, .func (PySem.W.fnOf "are_units" "are_units" (defArgs s_are_units) (defBody s_are_units) (defScope s_are_units) .none kV_are_units dc_are_units pm_are_units_ an_are_units cd_are_units ct_are_units), sl_are_units⟩)
    (c_are_units : PySem.W.codeIn K cd_are_units "are_units" = true)
    (k_are_units : PySem.W.keepIn K (.ref f_are_units) = true)
    (a_written : PySem.W.nsIn K mainGlobals "written" = some (some (.ref f_written)))
    (l_written : K.lookup f_written = some ⟨oc_written, od_written, .func (PySem.W.fnOf "written" "written" (defArgs s_written) (defBody s_written) (defScope s_written) .none kV_written dc_written pm_written_ an_written cd_written ct_written), sl_written⟩)
    (c_written : PySem.W.codeIn K cd_written "written" = true)
    (k_written : PySem.W.keepIn K (.ref f_written) = true)
    (a_read_letter : PySem.W.nsIn K mainGlobals "read_letter" = some (some (.ref f_read_letter)))
    (l_read_letter : K.lookup f_read_letter = some ⟨oc_read_letter, od_read_letter, .func (PySem.W.fnOf "read_letter" "read_letter" (defArgs s_read_letter) (defBody s_read_letter) (defScope s_read_letter) .none kV_read_letter dc_read_letter pm_read_letter_ an_read_letter cd_read_letter ct_read_letter), sl_read_letter⟩)
    (c_read_letter : PySem.W.codeIn K cd_read_letter "read_letter" = true)
    (k_read_letter : PySem.W.keepIn K (.ref f_read_letter) = true)
    (a__law_bag : PySem.W.nsIn K mainGlobals "_law_bag" = some (some (.ref f__law_bag)))
    (l__law_bag : K.lookup f__law_bag = some ⟨oc__law_bag, od__law_bag, .func (PySem.W.fnOf "_law_bag" "_law_bag" (defArgs s__law_bag) (defBody s__law_bag) (defScope s__law_bag) .none kV__law_bag dc__law_bag pm__law_bag_ an__law_bag cd__law_bag ct__law_bag), sl__law_bag⟩)
    (c__law_bag : PySem.W.codeIn K cd__law_bag "_law_bag" = true)
    (k__law_bag : PySem.W.keepIn K (.ref f__law_bag) = true)
    (a__law_draw : PySem.W.nsIn K mainGlobals "_law_draw" = some (some (.ref f__law_draw)))
    (l__law_draw : K.lookup f__law_draw = some ⟨oc__law_draw, od__law_draw, .func (PySem.W.fnOf "_law_draw" "_law_draw" (defArgs s__law_draw) (defBody s__law_draw) (defScope s__law_draw) .none kV__law_draw dc__law_draw pm__law_draw_ an__law_draw cd__law_draw ct__law_draw), sl__law_draw⟩)
    (c__law_draw : PySem.W.codeIn K cd__law_draw "_law_draw" = true)
    (k__law_draw : PySem.W.keepIn K (.ref f__law_draw) = true)
    (a__law_letter : PySem.W.nsIn K mainGlobals "_law_letter" = some (some (.ref f__law_letter)))
    (l__law_letter : K.lookup f__law_letter = some ⟨oc__law_letter, od__law_letter, .func (PySem.W.fnOf "_law_letter" "_law_letter" (defArgs s__law_letter) (defBody s__law_letter) (defScope s__law_letter) .none kV__law_letter dc__law_letter pm__law_letter_ an__law_letter cd__law_letter ct__law_letter), sl__law_letter⟩)
    (c__law_letter : PySem.W.codeIn K cd__law_letter "_law_letter" = true)
    (k__law_letter : PySem.W.keepIn K (.ref f__law_letter) = true)
    (a__law_use : PySem.W.nsIn K mainGlobals "_law_use" = some (some (.ref f__law_use)))
    (l__law_use : K.lookup f__law_use = some ⟨oc__law_use, od__law_use, .func (PySem.W.fnOf "_law_use" "_law_use" (defArgs s__law_use) (defBody s__law_use) (defScope s__law_use) .none kV__law_use dc__law_use pm__law_use_ an__law_use cd__law_use ct__law_use), sl__law_use⟩)
    (c__law_use : PySem.W.codeIn K cd__law_use "_law_use" = true)
    (k__law_use : PySem.W.keepIn K (.ref f__law_use) = true)
    (a__law_units : PySem.W.nsIn K mainGlobals "_law_units" = some (some (.ref f__law_units)))
    (l__law_units : K.lookup f__law_units = some ⟨oc__law_units, od__law_units, .func (PySem.W.fnOf "_law_units" "_law_units" (defArgs s__law_units) (defBody s__law_units) (defScope s__law_units) .none kV__law_units dc__law_units pm__law_units_ an__law_units cd__law_units ct__law_units), sl__law_units⟩)
    (c__law_units : PySem.W.codeIn K cd__law_units "_law_units" = true)
    (k__law_units : PySem.W.keepIn K (.ref f__law_units) = true)
    (a__law_unit : PySem.W.nsIn K mainGlobals "_law_unit" = some (some (.ref f__law_unit)))
    (l__law_unit : K.lookup f__law_unit = some ⟨oc__law_unit, od__law_unit, .func (PySem.W.fnOf "_law_unit" "_law_unit" (defArgs s__law_unit) (defBody s__law_unit) (defScope s__law_unit) .none kV__law_unit dc__law_unit pm__law_unit_ an__law_unit cd__law_unit ct__law_unit), sl__law_unit⟩)
    (c__law_unit : PySem.W.codeIn K cd__law_unit "_law_unit" = true)
    (k__law_unit : PySem.W.keepIn K (.ref f__law_unit) = true)
    (a__law_holds : PySem.W.nsIn K mainGlobals "_law_holds" = some (some (.ref f__law_holds)))
    (l__law_holds : K.lookup f__law_holds = some ⟨oc__law_holds, od__law_holds, .func (PySem.W.fnOf "_law_holds" "_law_holds" (defArgs s__law_holds) (defBody s__law_holds) (defScope s__law_holds) .none kV__law_holds dc__law_holds pm__law_holds_ an__law_holds cd__law_holds ct__law_holds), sl__law_holds⟩)
    (c__law_holds : PySem.W.codeIn K cd__law_holds "_law_holds" = true)
    (k__law_holds : PySem.W.keepIn K (.ref f__law_holds) = true)
    (a__law_same_order : PySem.W.nsIn K mainGlobals "_law_same_order" = some (some (.ref f__law_same_order)))
    (l__law_same_order : K.lookup f__law_same_order = some ⟨oc__law_same_order, od__law_same_order, .func (PySem.W.fnOf "_law_same_order" "_law_same_order" (defArgs s__law_same_order) (defBody s__law_same_order) (defScope s__law_same_order) .none kV__law_same_order dc__law_same_order pm__law_same_order_ an__law_same_order cd__law_same_order ct__law_same_order), sl__law_same_order⟩)
    (c__law_same_order : PySem.W.codeIn K cd__law_same_order "_law_same_order" = true)
    (k__law_same_order : PySem.W.keepIn K (.ref f__law_same_order) = true)
    (a__law_refused : PySem.W.nsIn K mainGlobals "_law_refused" = some (some (.ref f__law_refused)))
    (l__law_refused : K.lookup f__law_refused = some ⟨oc__law_refused, od__law_refused, .func (PySem.W.fnOf "_law_refused" "_law_refused" (defArgs s__law_refused) (defBody s__law_refused) (defScope s__law_refused) .none kV__law_refused dc__law_refused pm__law_refused_ an__law_refused cd__law_refused ct__law_refused), sl__law_refused⟩)
    (c__law_refused : PySem.W.codeIn K cd__law_refused "_law_refused" = true)
    (k__law_refused : PySem.W.keepIn K (.ref f__law_refused) = true)
    (a__law_free : PySem.W.nsIn K mainGlobals "_law_free" = some (some (.ref f__law_free)))
    (l__law_free : K.lookup f__law_free = some ⟨oc__law_free, od__law_free, .func (PySem.W.fnOf "_law_free" "_law_free" (defArgs s__law_free) (defBody s__law_free) (defScope s__law_free) .none kV__law_free dc__law_free pm__law_free_ an__law_free cd__law_free ct__law_free), sl__law_free⟩)
    (c__law_free : PySem.W.codeIn K cd__law_free "_law_free" = true)
    (k__law_free : PySem.W.keepIn K (.ref f__law_free) = true)
    (a__law_odd : PySem.W.nsIn K mainGlobals "_law_odd" = some (some (.ref f__law_odd)))
    (l__law_odd : K.lookup f__law_odd = some ⟨oc__law_odd, od__law_odd, .func (PySem.W.fnOf "_law_odd" "_law_odd" (defArgs s__law_odd) (defBody s__law_odd) (defScope s__law_odd) .none kV__law_odd dc__law_odd pm__law_odd_ an__law_odd cd__law_odd ct__law_odd), sl__law_odd⟩)
    (c__law_odd : PySem.W.codeIn K cd__law_odd "_law_odd" = true)
    (k__law_odd : PySem.W.keepIn K (.ref f__law_odd) = true)
    (a_law : PySem.W.nsIn K mainGlobals "law" = some (some (.ref f_law)))
    (l_law : K.lookup f_law = some ⟨oc_law, od_law, .func (PySem.W.fnOf "law" "law" (defArgs s_law) (defBody s_law) (defScope s_law) .none kV_law dc_law pm_law_ an_law cd_law ct_law), sl_law⟩)
    (c_law : PySem.W.codeIn K cd_law "law" = true)
    (k_law : PySem.W.keepIn K (.ref f_law) = true)
    (a_BadPart_init : PySem.W.findIn K (.ref ABadPart) "__init__" = some (some (.ref f_BadPart_init)))
    (i_BadPart_init : PySem.W.typeIn K (.ref f_BadPart_init) = some (.type "function"))
    (l_BadPart_init : K.lookup f_BadPart_init = some ⟨oc_BadPart_init, od_BadPart_init, .func (PySem.W.fnOf "__init__" "BadPart.__init__" (defArgs s_BadPart_init) (defBody s_BadPart_init) (defScope s_BadPart_init) .none kV_BadPart_init dc_BadPart_init pm_BadPart_init_ an_BadPart_init cd_BadPart_init ct_BadPart_init), sl_BadPart_init⟩)
    (c_BadPart_init : PySem.W.codeIn K cd_BadPart_init "BadPart.__init__" = true)
    (k_BadPart_init : PySem.W.keepIn K (.ref f_BadPart_init) = true)
    (a_BadLetter_init : PySem.W.findIn K (.ref ABadLetter) "__init__" = some (some (.ref f_BadLetter_init)))
    (i_BadLetter_init : PySem.W.typeIn K (.ref f_BadLetter_init) = some (.type "function"))
    (l_BadLetter_init : K.lookup f_BadLetter_init = some ⟨oc_BadLetter_init, od_BadLetter_init, .func (PySem.W.fnOf "__init__" "BadLetter.__init__" (defArgs s_BadLetter_init) (defBody s_BadLetter_init) (defScope s_BadLetter_init) .none kV_BadLetter_init dc_BadLetter_init pm_BadLetter_init_ an_BadLetter_init cd_BadLetter_init ct_BadLetter_init), sl_BadLetter_init⟩)
    (c_BadLetter_init : PySem.W.codeIn K cd_BadLetter_init "BadLetter.__init__" = true)
    (k_BadLetter_init : PySem.W.keepIn K (.ref f_BadLetter_init) = true)
    (a_BadName_init : PySem.W.findIn K (.ref ABadName) "__init__" = some (some (.ref f_BadName_init)))
    (i_BadName_init : PySem.W.typeIn K (.ref f_BadName_init) = some (.type "function"))
    (l_BadName_init : K.lookup f_BadName_init = some ⟨oc_BadName_init, od_BadName_init, .func (PySem.W.fnOf "__init__" "BadName.__init__" (defArgs s_BadName_init) (defBody s_BadName_init) (defScope s_BadName_init) .none kV_BadName_init dc_BadName_init pm_BadName_init_ an_BadName_init cd_BadName_init ct_BadName_init), sl_BadName_init⟩)
    (c_BadName_init : PySem.W.codeIn K cd_BadName_init "BadName.__init__" = true)
    (k_BadName_init : PySem.W.keepIn K (.ref f_BadName_init) = true)
    (a_BadHead_init : PySem.W.findIn K (.ref ABadHead) "__init__" = some (some (.ref f_BadHead_init)))
    (i_BadHead_init : PySem.W.typeIn K (.ref f_BadHead_init) = some (.type "function"))
    (l_BadHead_init : K.lookup f_BadHead_init = some ⟨oc_BadHead_init, od_BadHead_init, .func (PySem.W.fnOf "__init__" "BadHead.__init__" (defArgs s_BadHead_init) (defBody s_BadHead_init) (defScope s_BadHead_init) .none kV_BadHead_init dc_BadHead_init pm_BadHead_init_ an_BadHead_init cd_BadHead_init ct_BadHead_init), sl_BadHead_init⟩)
    (c_BadHead_init : PySem.W.codeIn K cd_BadHead_init "BadHead.__init__" = true)
    (k_BadHead_init : PySem.W.keepIn K (.ref f_BadHead_init) = true)
    (a_BadUnits_init : PySem.W.findIn K (.ref ABadUnits) "__init__" = some (some (.ref f_BadUnits_init)))
    (i_BadUnits_init : PySem.W.typeIn K (.ref f_BadUnits_init) = some (.type "function"))
    (l_BadUnits_init : K.lookup f_BadUnits_init = some ⟨oc_BadUnits_init, od_BadUnits_init, .func (PySem.W.fnOf "__init__" "BadUnits.__init__" (defArgs s_BadUnits_init) (defBody s_BadUnits_init) (defScope s_BadUnits_init) .none kV_BadUnits_init dc_BadUnits_init pm_BadUnits_init_ an_BadUnits_init cd_BadUnits_init ct_BadUnits_init), sl_BadUnits_init⟩)
    (c_BadUnits_init : PySem.W.codeIn K cd_BadUnits_init "BadUnits.__init__" = true)
    (k_BadUnits_init : PySem.W.keepIn K (.ref f_BadUnits_init) = true)
    (a_Book_init : PySem.W.findIn K (.ref ABook) "__init__" = some (some (.ref f_Book_init)))
    (i_Book_init : PySem.W.isFn K (.ref f_Book_init) = true)
    (l_Book_init : K.lookup f_Book_init = some ⟨oc_Book_init, od_Book_init, .func (PySem.W.fnOf "__init__" "Book.__init__" (defArgs s_Book_init) (defBody s_Book_init) (defScope s_Book_init) (.ref Td) kV_Book_init dc_Book_init pm_Book_init_ an_Book_init cd_Book_init ct_Book_init), sl_Book_init⟩)
    (c_Book_init : PySem.W.codeIn K cd_Book_init "Book.__init__" = true)
    (k_Book_init : PySem.W.keepIn K (.ref f_Book_init) = true)
    (a_Book_held : PySem.W.findIn K (.ref ABook) "held" = some (some (.ref f_Book_held)))
    (i_Book_held : PySem.W.isFn K (.ref f_Book_held) = true)
    (l_Book_held : K.lookup f_Book_held = some ⟨oc_Book_held, od_Book_held, .func (PySem.W.fnOf "held" "Book.held" (defArgs s_Book_held) (defBody s_Book_held) (defScope s_Book_held) .none kV_Book_held dc_Book_held pm_Book_held_ an_Book_held cd_Book_held ct_Book_held), sl_Book_held⟩)
    (c_Book_held : PySem.W.codeIn K cd_Book_held "Book.held" = true)
    (k_Book_held : PySem.W.keepIn K (.ref f_Book_held) = true)
    (a_Book_oldest_first : PySem.W.findIn K (.ref ABook) "oldest_first" = some (some (.ref f_Book_oldest_first)))
    (i_Book_oldest_first : PySem.W.isFn K (.ref f_Book_oldest_first) = true)
    (l_Book_oldest_first : K.lookup f_Book_oldest_first = some ⟨oc_Book_oldest_first, od_Book_oldest_first, .func (PySem.W.fnOf "oldest_first" "Book.oldest_first" (defArgs s_Book_oldest_first) (defBody s_Book_oldest_first) (defScope s_Book_oldest_first) .none kV_Book_oldest_first dc_Book_oldest_first pm_Book_oldest_first_ an_Book_oldest_first cd_Book_oldest_first ct_Book_oldest_first), sl_Book_oldest_first⟩)
    (c_Book_oldest_first : PySem.W.codeIn K cd_Book_oldest_first "Book.oldest_first" = true)
    (k_Book_oldest_first : PySem.W.keepIn K (.ref f_Book_oldest_first) = true)
    (a_Book_place_of : PySem.W.findIn K (.ref ABook) "place_of" = some (some (.ref f_Book_place_of)))
    (i_Book_place_of : PySem.W.isFn K (.ref f_Book_place_of) = true)
    (l_Book_place_of : K.lookup f_Book_place_of = some ⟨oc_Book_place_of, od_Book_place_of, .func (PySem.W.fnOf "place_of" "Book.place_of" (defArgs s_Book_place_of) (defBody s_Book_place_of) (defScope s_Book_place_of) .none kV_Book_place_of dc_Book_place_of pm_Book_place_of_ an_Book_place_of cd_Book_place_of ct_Book_place_of), sl_Book_place_of⟩)
    (c_Book_place_of : PySem.W.codeIn K cd_Book_place_of "Book.place_of" = true)
    (k_Book_place_of : PySem.W.keepIn K (.ref f_Book_place_of) = true)
    (a_Book_used : PySem.W.findIn K (.ref ABook) "used" = some (some (.ref f_Book_used)))
    (i_Book_used : PySem.W.isFn K (.ref f_Book_used) = true)
    (l_Book_used : K.lookup f_Book_used = some ⟨oc_Book_used, od_Book_used, .func (PySem.W.fnOf "used" "Book.used" (defArgs s_Book_used) (defBody s_Book_used) (defScope s_Book_used) .none kV_Book_used dc_Book_used pm_Book_used_ an_Book_used cd_Book_used ct_Book_used), sl_Book_used⟩)
    (c_Book_used : PySem.W.codeIn K cd_Book_used "Book.used" = true)
    (k_Book_used : PySem.W.keepIn K (.ref f_Book_used) = true)
    (a_Book_word_for : PySem.W.findIn K (.ref ABook) "word_for" = some (some (.ref f_Book_word_for)))
    (i_Book_word_for : PySem.W.isFn K (.ref f_Book_word_for) = true)
    (l_Book_word_for : K.lookup f_Book_word_for = some ⟨oc_Book_word_for, od_Book_word_for, .func (PySem.W.fnOf "word_for" "Book.word_for" (defArgs s_Book_word_for) (defBody s_Book_word_for) (defScope s_Book_word_for) .none kV_Book_word_for dc_Book_word_for pm_Book_word_for_ an_Book_word_for cd_Book_word_for ct_Book_word_for), sl_Book_word_for⟩)
    (c_Book_word_for : PySem.W.codeIn K cd_Book_word_for "Book.word_for" = true)
    (k_Book_word_for : PySem.W.keepIn K (.ref f_Book_word_for) = true)
    (a_Book_contains : PySem.W.findIn K (.ref ABook) "__contains__" = some (some (.ref f_Book_contains)))
    (i_Book_contains : PySem.W.isFn K (.ref f_Book_contains) = true)
    (l_Book_contains : K.lookup f_Book_contains = some ⟨oc_Book_contains, od_Book_contains, .func (PySem.W.fnOf "__contains__" "Book.__contains__" (defArgs s_Book_contains) (defBody s_Book_contains) (defScope s_Book_contains) .none kV_Book_contains dc_Book_contains pm_Book_contains_ an_Book_contains cd_Book_contains ct_Book_contains), sl_Book_contains⟩)
    (c_Book_contains : PySem.W.codeIn K cd_Book_contains "Book.__contains__" = true)
    (k_Book_contains : PySem.W.keepIn K (.ref f_Book_contains) = true)
    (a_Book_len : PySem.W.findIn K (.ref ABook) "__len__" = some (some (.ref f_Book_len)))
    (i_Book_len : PySem.W.isFn K (.ref f_Book_len) = true)
    (l_Book_len : K.lookup f_Book_len = some ⟨oc_Book_len, od_Book_len, .func (PySem.W.fnOf "__len__" "Book.__len__" (defArgs s_Book_len) (defBody s_Book_len) (defScope s_Book_len) .none kV_Book_len dc_Book_len pm_Book_len_ an_Book_len cd_Book_len ct_Book_len), sl_Book_len⟩)
    (c_Book_len : PySem.W.codeIn K cd_Book_len "Book.__len__" = true)
    (k_Book_len : PySem.W.keepIn K (.ref f_Book_len) = true)
    (a_Book_eq : PySem.W.findIn K (.ref ABook) "__eq__" = some (some (.ref f_Book_eq)))
    (i_Book_eq : PySem.W.isFn K (.ref f_Book_eq) = true)
    (l_Book_eq : K.lookup f_Book_eq = some ⟨oc_Book_eq, od_Book_eq, .func (PySem.W.fnOf "__eq__" "Book.__eq__" (defArgs s_Book_eq) (defBody s_Book_eq) (defScope s_Book_eq) .none kV_Book_eq dc_Book_eq pm_Book_eq_ an_Book_eq cd_Book_eq ct_Book_eq), sl_Book_eq⟩)
    (c_Book_eq : PySem.W.codeIn K cd_Book_eq "Book.__eq__" = true)
    (k_Book_eq : PySem.W.keepIn K (.ref f_Book_eq) = true)
    (d_T : K.lookup Td = some ⟨dcl, ddt, .seq #[.ref AT0] dn, dsl⟩)
    (d_0 : K.lookup AT0 = some ⟨.type "tuple", edt, .seq #[] en, esl⟩)
    (g_BODY : PySem.W.nsIn K mainGlobals "BODY" = some (some (.ref ABODY)))
    (e_BODY : K.lookup ABODY = some ⟨.type "tuple", dt_BODY, .seq #[.str "body" tk_BODY_0] n_BODY, sl_BODY⟩)
    (g_REST : PySem.W.nsIn K mainGlobals "REST" = some (some (.ref AREST)))
    (e_REST : K.lookup AREST = some ⟨.type "tuple", dt_REST, .seq #[.str "rest" tk_REST_0] n_REST, sl_REST⟩)
    (n_isinstance : PySem.W.nsIn K mainGlobals "isinstance" = some none)
    (n_int : PySem.W.nsIn K mainGlobals "int" = some none)
    (n_bool : PySem.W.nsIn K mainGlobals "bool" = some none)
    (n_str : PySem.W.nsIn K mainGlobals "str" = some none)
    (n_list : PySem.W.nsIn K mainGlobals "list" = some none)
    (n_tuple : PySem.W.nsIn K mainGlobals "tuple" = some none)
    (n_len : PySem.W.nsIn K mainGlobals "len" = some none)
    (n_range : PySem.W.nsIn K mainGlobals "range" = some none)
    (n_enumerate : PySem.W.nsIn K mainGlobals "enumerate" = some none)
    (n_all : PySem.W.nsIn K mainGlobals "all" = some none)
    (v_MOST_PLACES : PySem.W.nsIn K mainGlobals "MOST_PLACES" = some (some (.int 4 t_MOST_PLACES)))
    (v_ALPHABET : PySem.W.nsIn K mainGlobals "ALPHABET" = some (some (.str "abcdefghijklmnopqrstuvwxyz" t_ALPHABET)))
    (v_MOST_HEADS : PySem.W.nsIn K mainGlobals "MOST_HEADS" = some (some (.int 4 t_MOST_HEADS)))
    (v_MOST_BODY : PySem.W.nsIn K mainGlobals "MOST_BODY" = some (some (.int 60 t_MOST_BODY)))
    (v_LEAST_COST : PySem.W.nsIn K mainGlobals "LEAST_COST" = some (some (.int 2 t_LEAST_COST)))
    (v_MOST_COST : PySem.W.nsIn K mainGlobals "MOST_COST" = some (some (.int 9 t_MOST_COST)))
    (s_hn : PySem.W.specialIn K (.builtin "object.__class__") "__get__" = some (some (.builtin "getset_descriptor.__get__")))
    (s_tk : PySem.W.takesIn K (.builtin "object.__class__") = some true)
    (pg_Book : PySem.W.plainGet K ABook Str.empty = true)
    (hd_Book : PySem.W.hasDictIn K ABook = true)
    (po_Book : PySem.W.plainOver K ABook = true)
    (sa_Book : PySem.W.findIn K (.ref ABook) "__setattr__" = some (some (.builtin "object.__setattr__")))
    (ha_Book : PySem.W.findIn K (.ref ABook) "__class__" = some (some (.builtin "object.__class__")))
    (hm_Book : PySem.W.mroIn K ABook (.type "object") = some true)
    (ne_Book : PySem.W.findIn K (.ref ABook) "__ne__" = some (some (.builtin "object.__ne__")))
    (is_Book : PySem.W.isClsIn K ABook = true)
    (ty_Book : PySem.W.typeIn K (.ref ABook) = some (.type "type"))
    (tup_Book : PySem.W.subIn K (.ref ABook) (.type "tuple") = some false)
    (lst_Book : PySem.W.subIn K (.ref ABook) (.type "list") = some false)
    (int_Book : PySem.W.subIn K (.ref ABook) (.type "int") = some false)
    (str_Book : PySem.W.subIn K (.ref ABook) (.type "str") = some false)
    (mk_Book : PySem.W.makesIn K ABook = true)
    (kc_Book : PySem.W.keepIn K (.ref ABook) = true)
    (na_Book_places : PySem.W.findIn K (.ref ABook) "places" = some none)
    (na_Book_slots : PySem.W.findIn K (.ref ABook) "slots" = some none)
    (na_Book_order : PySem.W.findIn K (.ref ABook) "order" = some none)
    (xBadPart_L : K.lookup ABadPart = some (excClassObj xBadPart_nm xBadPart_q ABadPart xBadPart_N xBadPart_bs [.ref AWholeError, .type "ValueError", .type "Exception", .type "BaseException", .type "object"] true xBadPart_sn xBadPart_sub xBadPart_ab xBadPart_col xBadPart_dd xBadPart_m0 xBadPart_m1 xBadPart_m2 xBadPart_m3 xBadPart_m5 "ValueError.__new__"))
    (xBadPart_sa : PySem.W.findIn K (.ref ABadPart) "__setattr__" = some (some (.builtin "object.__setattr__")))
    (xBadPart_ex : PySem.W.subIn K (.ref ABadPart) (.type "BaseException") = some true)
    (xBadPart_ty : PySem.W.typeIn K (.ref ABadPart) = some (.type "type"))
    (xBadPart_kC : PySem.W.keepIn K (.ref ABadPart) = true)
    (xBadPart_noA : PySem.W.findIn K (.ref ABadPart) "part" = some none)
    (xBadPart_hg : PySem.W.findIn K (.ref ABadPart) "__getattribute__" = some (some (.builtin "BaseException.__getattribute__")))
    (xBadPart_hk : PySem.W.findIn K (.ref ABadPart) "__getattr__" = some none)
    (xBadPart_hd : PySem.W.hasDictIn K ABadPart = true)
    (xBadPart_ha : PySem.W.findIn K (.ref ABadPart) "__class__" = some (some (.builtin "object.__class__")))
    (xBadPart_hm : PySem.W.mroIn K ABadPart (.type "object") = some true)
    (xBadPart_is : PySem.W.isClsIn K ABadPart = true)
    (xBadPart_ss : PySem.W.subIn K (.ref ABadPart) (.ref ABadPart) = some true)
    (xBadPart_w : PySem.W.subIn K (.ref ABadPart) (.ref AWholeError) = some true)
    (xBadLetter_L : K.lookup ABadLetter = some (excClassObj xBadLetter_nm xBadLetter_q ABadLetter xBadLetter_N xBadLetter_bs [.ref AWholeError, .type "ValueError", .type "Exception", .type "BaseException", .type "object"] true xBadLetter_sn xBadLetter_sub xBadLetter_ab xBadLetter_col xBadLetter_dd xBadLetter_m0 xBadLetter_m1 xBadLetter_m2 xBadLetter_m3 xBadLetter_m5 "ValueError.__new__"))
    (xBadLetter_sa : PySem.W.findIn K (.ref ABadLetter) "__setattr__" = some (some (.builtin "object.__setattr__")))
    (xBadLetter_ex : PySem.W.subIn K (.ref ABadLetter) (.type "BaseException") = some true)
    (xBadLetter_ty : PySem.W.typeIn K (.ref ABadLetter) = some (.type "type"))
    (xBadLetter_kC : PySem.W.keepIn K (.ref ABadLetter) = true)
    (xBadLetter_noA : PySem.W.findIn K (.ref ABadLetter) "spot" = some none)
    (xBadLetter_hg : PySem.W.findIn K (.ref ABadLetter) "__getattribute__" = some (some (.builtin "BaseException.__getattribute__")))
    (xBadLetter_hk : PySem.W.findIn K (.ref ABadLetter) "__getattr__" = some none)
    (xBadLetter_hd : PySem.W.hasDictIn K ABadLetter = true)
    (xBadLetter_ha : PySem.W.findIn K (.ref ABadLetter) "__class__" = some (some (.builtin "object.__class__")))
    (xBadLetter_hm : PySem.W.mroIn K ABadLetter (.type "object") = some true)
    (xBadLetter_is : PySem.W.isClsIn K ABadLetter = true)
    (xBadLetter_ss : PySem.W.subIn K (.ref ABadLetter) (.ref ABadLetter) = some true)
    (xBadLetter_w : PySem.W.subIn K (.ref ABadLetter) (.ref AWholeError) = some true)
    (xBadName_L : K.lookup ABadName = some (excClassObj xBadName_nm xBadName_q ABadName xBadName_N xBadName_bs [.ref AWholeError, .type "ValueError", .type "Exception", .type "BaseException", .type "object"] true xBadName_sn xBadName_sub xBadName_ab xBadName_col xBadName_dd xBadName_m0 xBadName_m1 xBadName_m2 xBadName_m3 xBadName_m5 "ValueError.__new__"))
    (xBadName_sa : PySem.W.findIn K (.ref ABadName) "__setattr__" = some (some (.builtin "object.__setattr__")))
    (xBadName_ex : PySem.W.subIn K (.ref ABadName) (.type "BaseException") = some true)
    (xBadName_ty : PySem.W.typeIn K (.ref ABadName) = some (.type "type"))
    (xBadName_kC : PySem.W.keepIn K (.ref ABadName) = true)
    (xBadName_noA : PySem.W.findIn K (.ref ABadName) "name" = some none)
    (xBadName_hg : PySem.W.findIn K (.ref ABadName) "__getattribute__" = some (some (.builtin "BaseException.__getattribute__")))
    (xBadName_hk : PySem.W.findIn K (.ref ABadName) "__getattr__" = some none)
    (xBadName_hd : PySem.W.hasDictIn K ABadName = true)
    (xBadName_ha : PySem.W.findIn K (.ref ABadName) "__class__" = some (some (.builtin "object.__class__")))
    (xBadName_hm : PySem.W.mroIn K ABadName (.type "object") = some true)
    (xBadName_is : PySem.W.isClsIn K ABadName = true)
    (xBadName_ss : PySem.W.subIn K (.ref ABadName) (.ref ABadName) = some true)
    (xBadName_w : PySem.W.subIn K (.ref ABadName) (.ref AWholeError) = some true)
    (xBadHead_L : K.lookup ABadHead = some (excClassObj xBadHead_nm xBadHead_q ABadHead xBadHead_N xBadHead_bs [.ref AWholeError, .type "ValueError", .type "Exception", .type "BaseException", .type "object"] true xBadHead_sn xBadHead_sub xBadHead_ab xBadHead_col xBadHead_dd xBadHead_m0 xBadHead_m1 xBadHead_m2 xBadHead_m3 xBadHead_m5 "ValueError.__new__"))
    (xBadHead_sa : PySem.W.findIn K (.ref ABadHead) "__setattr__" = some (some (.builtin "object.__setattr__")))
    (xBadHead_ex : PySem.W.subIn K (.ref ABadHead) (.type "BaseException") = some true)
    (xBadHead_ty : PySem.W.typeIn K (.ref ABadHead) = some (.type "type"))
    (xBadHead_kC : PySem.W.keepIn K (.ref ABadHead) = true)
    (xBadHead_noA : PySem.W.findIn K (.ref ABadHead) "index" = some none)
    (xBadHead_hg : PySem.W.findIn K (.ref ABadHead) "__getattribute__" = some (some (.builtin "BaseException.__getattribute__")))
    (xBadHead_hk : PySem.W.findIn K (.ref ABadHead) "__getattr__" = some none)
    (xBadHead_hd : PySem.W.hasDictIn K ABadHead = true)
    (xBadHead_ha : PySem.W.findIn K (.ref ABadHead) "__class__" = some (some (.builtin "object.__class__")))
    (xBadHead_hm : PySem.W.mroIn K ABadHead (.type "object") = some true)
    (xBadHead_is : PySem.W.isClsIn K ABadHead = true)
    (xBadHead_ss : PySem.W.subIn K (.ref ABadHead) (.ref ABadHead) = some true)
    (xBadHead_w : PySem.W.subIn K (.ref ABadHead) (.ref AWholeError) = some true)
    (xBadUnits_L : K.lookup ABadUnits = some (excClassObj xBadUnits_nm xBadUnits_q ABadUnits xBadUnits_N xBadUnits_bs [.ref AWholeError, .type "ValueError", .type "Exception", .type "BaseException", .type "object"] true xBadUnits_sn xBadUnits_sub xBadUnits_ab xBadUnits_col xBadUnits_dd xBadUnits_m0 xBadUnits_m1 xBadUnits_m2 xBadUnits_m3 xBadUnits_m5 "ValueError.__new__"))
    (xBadUnits_sa : PySem.W.findIn K (.ref ABadUnits) "__setattr__" = some (some (.builtin "object.__setattr__")))
    (xBadUnits_ex : PySem.W.subIn K (.ref ABadUnits) (.type "BaseException") = some true)
    (xBadUnits_ty : PySem.W.typeIn K (.ref ABadUnits) = some (.type "type"))
    (xBadUnits_kC : PySem.W.keepIn K (.ref ABadUnits) = true)
    (xBadUnits_noA : PySem.W.findIn K (.ref ABadUnits) "value" = some none)
    (xBadUnits_hg : PySem.W.findIn K (.ref ABadUnits) "__getattribute__" = some (some (.builtin "BaseException.__getattribute__")))
    (xBadUnits_hk : PySem.W.findIn K (.ref ABadUnits) "__getattr__" = some none)
    (xBadUnits_hd : PySem.W.hasDictIn K ABadUnits = true)
    (xBadUnits_ha : PySem.W.findIn K (.ref ABadUnits) "__class__" = some (some (.builtin "object.__class__")))
    (xBadUnits_hm : PySem.W.mroIn K ABadUnits (.type "object") = some true)
    (xBadUnits_is : PySem.W.isClsIn K ABadUnits = true)
    (xBadUnits_ss : PySem.W.subIn K (.ref ABadUnits) (.ref ABadUnits) = some true)
    (xBadUnits_w : PySem.W.subIn K (.ref ABadUnits) (.ref AWholeError) = some true)
    (xo_BadPart_BadLetter : PySem.W.subIn K (.ref ABadPart) (.ref ABadLetter) = some false)
    (xo_BadUnits_BadLetter : PySem.W.subIn K (.ref ABadUnits) (.ref ABadLetter) = some false)
    (xo_BadUnits_BadPart : PySem.W.subIn K (.ref ABadUnits) (.ref ABadPart) = some false)
    (xw_i : PySem.W.isClsIn K AWholeError = true)
    (xw_t : PySem.W.typeIn K (.ref AWholeError) = some (.type "type"))
    (xw_b : PySem.W.subIn K (.ref AWholeError) (.type "BaseException") = some true)
    : ∃ fd : FuncData, (∀ (s : Shared) (v : Value), BindsTo s fd ⟨[v], []⟩ [("_law_script", v)]) ∧ ∀ base : Heap, K.In base → base.Ns mainGlobals mg → FnOk P w K mg base CX0 11 fa fd ["_law_script"] (spLaw K) := by
  have e := hfa.symm.trans (PySem.W.mg_of X G a_law)
  cases e
  have F_is_integer := fun_mk (st := s_is_integer) l_is_integer c_is_integer k_is_integer
  have D_is_integer : DefAt K mg "is_integer" s_is_integer pm_is_integer := ⟨_, _, F_is_integer, PySem.W.mg_of X G a_is_integer, F_is_integer.binds (ps := pm_is_integer) fun _ _ _ _ _ _ us hl => match us, hl with | [_], _ => rfl⟩
  have F_is_between := fun_mk (st := s_is_between) l_is_between c_is_between k_is_between
  have D_is_between : DefAt K mg "is_between" s_is_between pm_is_between := ⟨_, _, F_is_between, PySem.W.mg_of X G a_is_between, F_is_between.binds (ps := pm_is_between) fun _ _ _ _ _ _ us hl => match us, hl with | [_, _, _], _ => rfl⟩
  have F_is_index := fun_mk (st := s_is_index) l_is_index c_is_index k_is_index
  have D_is_index : DefAt K mg "is_index" s_is_index pm_is_index := ⟨_, _, F_is_index, PySem.W.mg_of X G a_is_index, F_is_index.binds (ps := pm_is_index) fun _ _ _ _ _ _ us hl => match us, hl with | [_, _], _ => rfl⟩
  have F_is_list := fun_mk (st := s_is_list) l_is_list c_is_list k_is_list
  have D_is_list : DefAt K mg "is_list" s_is_list pm_is_list := ⟨_, _, F_is_list, PySem.W.mg_of X G a_is_list, F_is_list.binds (ps := pm_is_list) fun _ _ _ _ _ _ us hl => match us, hl with | [_], _ => rfl⟩
  have F_is_name := fun_mk (st := s_is_name) l_is_name c_is_name k_is_name
  have D_is_name : DefAt K mg "is_name" s_is_name pm_is_name := ⟨_, _, F_is_name, PySem.W.mg_of X G a_is_name, F_is_name.binds (ps := pm_is_name) fun _ _ _ _ _ _ us hl => match us, hl with | [_], _ => rfl⟩
  have F_is_tuple_of := fun_mk (st := s_is_tuple_of) l_is_tuple_of c_is_tuple_of k_is_tuple_of
  have D_is_tuple_of : DefAt K mg "is_tuple_of" s_is_tuple_of pm_is_tuple_of := ⟨_, _, F_is_tuple_of, PySem.W.mg_of X G a_is_tuple_of, F_is_tuple_of.binds (ps := pm_is_tuple_of) fun _ _ _ _ _ _ us hl => match us, hl with | [_, _], _ => rfl⟩
  have F_is_told_by := fun_mk (st := s_is_told_by) l_is_told_by c_is_told_by k_is_told_by
  have D_is_told_by : DefAt K mg "is_told_by" s_is_told_by pm_is_told_by := ⟨_, _, F_is_told_by, PySem.W.mg_of X G a_is_told_by, F_is_told_by.binds (ps := pm_is_told_by) fun _ _ _ _ _ _ us hl => match us, hl with | [_, _, _], _ => rfl⟩
  have F_is_letter := fun_mk (st := s_is_letter) l_is_letter c_is_letter k_is_letter
  have D_is_letter : DefAt K mg "is_letter" s_is_letter pm_is_letter := ⟨_, _, F_is_letter, PySem.W.mg_of X G a_is_letter, F_is_letter.binds (ps := pm_is_letter) fun _ _ _ _ _ _ us hl => match us, hl with | [_], _ => rfl⟩
  have F_check_heads := fun_mk (st := s_check_heads) l_check_heads c_check_heads k_check_heads
  have D_check_heads : DefAt K mg "check_heads" s_check_heads pm_check_heads := ⟨_, _, F_check_heads, PySem.W.mg_of X G a_check_heads, F_check_heads.binds (ps := pm_check_heads) fun _ _ _ _ _ _ us hl => match us, hl with | [_], _ => rfl⟩
  have F_is_word := fun_mk (st := s_is_word) l_is_word c_is_word k_is_word
  have D_is_word : DefAt K mg "is_word" s_is_word pm_is_word := ⟨_, _, F_is_word, PySem.W.mg_of X G a_is_word, F_is_word.binds (ps := pm_is_word) fun _ _ _ _ _ _ us hl => match us, hl with | [_], _ => rfl⟩
  have F_check_places := fun_mk (st := s_check_places) l_check_places c_check_places k_check_places
  have D_check_places : DefAt K mg "check_places" s_check_places pm_check_places := ⟨_, _, F_check_places, PySem.W.mg_of X G a_check_places, F_check_places.binds (ps := pm_check_places) fun _ _ _ _ _ _ us hl => match us, hl with | [_], _ => rfl⟩
  have F_next_of := fun_mk (st := s_next_of) l_next_of c_next_of k_next_of
  have D_next_of : DefAt K mg "next_of" s_next_of pm_next_of := ⟨_, _, F_next_of, PySem.W.mg_of X G a_next_of, F_next_of.binds (ps := pm_next_of) fun _ _ _ _ _ _ us hl => match us, hl with | [_, _], _ => rfl⟩
  have F_slots_behind := fun_mk (st := s_slots_behind) l_slots_behind c_slots_behind k_slots_behind
  have D_slots_behind : DefAt K mg "slots_behind" s_slots_behind pm_slots_behind := ⟨_, _, F_slots_behind, PySem.W.mg_of X G a_slots_behind, F_slots_behind.binds (ps := pm_slots_behind) fun _ _ _ _ _ _ us hl => match us, hl with | [_, _], _ => rfl⟩
  have F_read_head := fun_mk (st := s_read_head) l_read_head c_read_head k_read_head
  have D_read_head : DefAt K mg "read_head" s_read_head pm_read_head := ⟨_, _, F_read_head, PySem.W.mg_of X G a_read_head, F_read_head.binds (ps := pm_read_head) fun _ _ _ _ _ _ us hl => match us, hl with | [_, _], _ => rfl⟩
  have F_check_book := fun_mk (st := s_check_book) l_check_book c_check_book k_check_book
  have D_check_book : DefAt K mg "check_book" s_check_book pm_check_book := ⟨_, _, F_check_book, PySem.W.mg_of X G a_check_book, F_check_book.binds (ps := pm_check_book) fun _ _ _ _ _ _ us hl => match us, hl with | [_], _ => rfl⟩
  have F_is_unit := fun_mk (st := s_is_unit) l_is_unit c_is_unit k_is_unit
  have D_is_unit : DefAt K mg "is_unit" s_is_unit pm_is_unit := ⟨_, _, F_is_unit, PySem.W.mg_of X G a_is_unit, F_is_unit.binds (ps := pm_is_unit) fun _ _ _ _ _ _ us hl => match us, hl with | [_], _ => rfl⟩
  have F_are_units := fun_mk (st := s_are_units) l_are_units c_are_units k_are_units
  have D_are_units : DefAt K mg "are_units" s_are_units pm_are_units := ⟨_, _, F_are_units, PySem.W.mg_of X G a_are_units, F_are_units.binds (ps := pm_are_units) fun _ _ _ _ _ _ us hl => match us, hl with | [_], _ => rfl⟩
  have F_written := fun_mk (st := s_written) l_written c_written k_written
  have D_written : DefAt K mg "written" s_written pm_written := ⟨_, _, F_written, PySem.W.mg_of X G a_written, F_written.binds (ps := pm_written) fun _ _ _ _ _ _ us hl => match us, hl with | [_, _, _], _ => rfl⟩
  have F_read_letter := fun_mk (st := s_read_letter) l_read_letter c_read_letter k_read_letter
  have D_read_letter : DefAt K mg "read_letter" s_read_letter pm_read_letter := ⟨_, _, F_read_letter, PySem.W.mg_of X G a_read_letter, F_read_letter.binds (ps := pm_read_letter) fun _ _ _ _ _ _ us hl => match us, hl with | [_, _], _ => rfl⟩
  have F__law_bag := fun_mk (st := s__law_bag) l__law_bag c__law_bag k__law_bag
  have D__law_bag : DefAt K mg "_law_bag" s__law_bag pm__law_bag := ⟨_, _, F__law_bag, PySem.W.mg_of X G a__law_bag, F__law_bag.binds (ps := pm__law_bag) fun _ _ _ _ _ _ us hl => match us, hl with | [_], _ => rfl⟩
  have F__law_draw := fun_mk (st := s__law_draw) l__law_draw c__law_draw k__law_draw
  have D__law_draw : DefAt K mg "_law_draw" s__law_draw pm__law_draw := ⟨_, _, F__law_draw, PySem.W.mg_of X G a__law_draw, F__law_draw.binds (ps := pm__law_draw) fun _ _ _ _ _ _ us hl => match us, hl with | [_, _], _ => rfl⟩
  have F__law_letter := fun_mk (st := s__law_letter) l__law_letter c__law_letter k__law_letter
  have D__law_letter : DefAt K mg "_law_letter" s__law_letter pm__law_letter := ⟨_, _, F__law_letter, PySem.W.mg_of X G a__law_letter, F__law_letter.binds (ps := pm__law_letter) fun _ _ _ _ _ _ us hl => match us, hl with | [_, _], _ => rfl⟩
  have F__law_use := fun_mk (st := s__law_use) l__law_use c__law_use k__law_use
  have D__law_use : DefAt K mg "_law_use" s__law_use pm__law_use := ⟨_, _, F__law_use, PySem.W.mg_of X G a__law_use, F__law_use.binds (ps := pm__law_use) fun _ _ _ _ _ _ us hl => match us, hl with | [_, _], _ => rfl⟩
  have F__law_units := fun_mk (st := s__law_units) l__law_units c__law_units k__law_units
  have D__law_units : DefAt K mg "_law_units" s__law_units pm__law_units := ⟨_, _, F__law_units, PySem.W.mg_of X G a__law_units, F__law_units.binds (ps := pm__law_units) fun _ _ _ _ _ _ us hl => match us, hl with | [_, _, _], _ => rfl⟩
  have F__law_unit := fun_mk (st := s__law_unit) l__law_unit c__law_unit k__law_unit
  have D__law_unit : DefAt K mg "_law_unit" s__law_unit pm__law_unit := ⟨_, _, F__law_unit, PySem.W.mg_of X G a__law_unit, F__law_unit.binds (ps := pm__law_unit) fun _ _ _ _ _ _ us hl => match us, hl with | [_], _ => rfl⟩
  have F__law_holds := fun_mk (st := s__law_holds) l__law_holds c__law_holds k__law_holds
  have D__law_holds : DefAt K mg "_law_holds" s__law_holds pm__law_holds := ⟨_, _, F__law_holds, PySem.W.mg_of X G a__law_holds, F__law_holds.binds (ps := pm__law_holds) fun _ _ _ _ _ _ us hl => match us, hl with | [_, _], _ => rfl⟩
  have F__law_same_order := fun_mk (st := s__law_same_order) l__law_same_order c__law_same_order k__law_same_order
  have D__law_same_order : DefAt K mg "_law_same_order" s__law_same_order pm__law_same_order := ⟨_, _, F__law_same_order, PySem.W.mg_of X G a__law_same_order, F__law_same_order.binds (ps := pm__law_same_order) fun _ _ _ _ _ _ us hl => match us, hl with | [_, _], _ => rfl⟩
  have F__law_refused := fun_mk (st := s__law_refused) l__law_refused c__law_refused k__law_refused
  have D__law_refused : DefAt K mg "_law_refused" s__law_refused pm__law_refused := ⟨_, _, F__law_refused, PySem.W.mg_of X G a__law_refused, F__law_refused.binds (ps := pm__law_refused) fun _ _ _ _ _ _ us hl => match us, hl with | [_, _, _, _], _ => rfl⟩
  have F__law_free := fun_mk (st := s__law_free) l__law_free c__law_free k__law_free
  have D__law_free : DefAt K mg "_law_free" s__law_free pm__law_free := ⟨_, _, F__law_free, PySem.W.mg_of X G a__law_free, F__law_free.binds (ps := pm__law_free) fun _ _ _ _ _ _ us hl => match us, hl with | [_, _], _ => rfl⟩
  have F__law_odd := fun_mk (st := s__law_odd) l__law_odd c__law_odd k__law_odd
  have D__law_odd : DefAt K mg "_law_odd" s__law_odd pm__law_odd := ⟨_, _, F__law_odd, PySem.W.mg_of X G a__law_odd, F__law_odd.binds (ps := pm__law_odd) fun _ _ _ _ _ _ us hl => match us, hl with | [_, _], _ => rfl⟩
  have F_BadPart_init := fun_mk (st := s_BadPart_init) l_BadPart_init c_BadPart_init k_BadPart_init
  have F_BadLetter_init := fun_mk (st := s_BadLetter_init) l_BadLetter_init c_BadLetter_init k_BadLetter_init
  have F_BadName_init := fun_mk (st := s_BadName_init) l_BadName_init c_BadName_init k_BadName_init
  have F_BadHead_init := fun_mk (st := s_BadHead_init) l_BadHead_init c_BadHead_init k_BadHead_init
  have F_BadUnits_init := fun_mk (st := s_BadUnits_init) l_BadUnits_init c_BadUnits_init k_BadUnits_init
  have FI : FunD K "__init__" "Book.__init__" (defArgs s_Book_init) (defBody s_Book_init) (defScope s_Book_init) [.ref AT0] [] f_Book_init _ := ⟨⟨_, _, _, _, _, _, _, _, _, _, rfl, l_Book_init, c_Book_init, .inr ⟨(fun z => nomatch z), Td, _, [.ref AT0], dn, rfl, d_T, rfl, .cons rfl .nil⟩, .inl rfl⟩, k_Book_init⟩
  obtain ⟨d4, v4, B4⟩ := FI.binds1 (ps := pm_Book_init) 3 1 (fun z => nomatch z) rfl (fun T kV doc pm an cdv ct us its hu hi => match us, hu, its, hi with | [_, _, _], _, [_], _ => ⟨_, rfl, rfl⟩)
  obtain ⟨d3, v3, B3⟩ := FI.binds1 (ps := pm_Book_init) 2 0 (fun z => nomatch z) rfl (fun T kV doc pm an cdv ct us its hu hi => match us, hu, its, hi with | [_, _], _, [_], _ => ⟨_, rfl, rfl⟩)
  cases v4
  have F_Book_held := fun_mk (st := s_Book_held) l_Book_held c_Book_held k_Book_held
  have M_Book_held : MethAt K ABook "held" "Book.held" s_Book_held pm_Book_held := ⟨_, _, F_Book_held, a_Book_held, i_Book_held, F_Book_held.binds (ps := pm_Book_held) fun _ _ _ _ _ _ us hl => match us, hl with | [_], _ => rfl⟩
  have F_Book_oldest_first := fun_mk (st := s_Book_oldest_first) l_Book_oldest_first c_Book_oldest_first k_Book_oldest_first
  have M_Book_oldest_first : MethAt K ABook "oldest_first" "Book.oldest_first" s_Book_oldest_first pm_Book_oldest_first := ⟨_, _, F_Book_oldest_first, a_Book_oldest_first, i_Book_oldest_first, F_Book_oldest_first.binds (ps := pm_Book_oldest_first) fun _ _ _ _ _ _ us hl => match us, hl with | [_], _ => rfl⟩
  have F_Book_place_of := fun_mk (st := s_Book_place_of) l_Book_place_of c_Book_place_of k_Book_place_of
  have M_Book_place_of : MethAt K ABook "place_of" "Book.place_of" s_Book_place_of pm_Book_place_of := ⟨_, _, F_Book_place_of, a_Book_place_of, i_Book_place_of, F_Book_place_of.binds (ps := pm_Book_place_of) fun _ _ _ _ _ _ us hl => match us, hl with | [_, _], _ => rfl⟩
  have F_Book_used := fun_mk (st := s_Book_used) l_Book_used c_Book_used k_Book_used
  have M_Book_used : MethAt K ABook "used" "Book.used" s_Book_used pm_Book_used := ⟨_, _, F_Book_used, a_Book_used, i_Book_used, F_Book_used.binds (ps := pm_Book_used) fun _ _ _ _ _ _ us hl => match us, hl with | [_, _], _ => rfl⟩
  have F_Book_word_for := fun_mk (st := s_Book_word_for) l_Book_word_for c_Book_word_for k_Book_word_for
  have M_Book_word_for : MethAt K ABook "word_for" "Book.word_for" s_Book_word_for pm_Book_word_for := ⟨_, _, F_Book_word_for, a_Book_word_for, i_Book_word_for, F_Book_word_for.binds (ps := pm_Book_word_for) fun _ _ _ _ _ _ us hl => match us, hl with | [_, _], _ => rfl⟩
  have F_Book_contains := fun_mk (st := s_Book_contains) l_Book_contains c_Book_contains k_Book_contains
  have M_Book_contains : MethAt K ABook "__contains__" "Book.__contains__" s_Book_contains pm_Book_contains := ⟨_, _, F_Book_contains, a_Book_contains, i_Book_contains, F_Book_contains.binds (ps := pm_Book_contains) fun _ _ _ _ _ _ us hl => match us, hl with | [_, _], _ => rfl⟩
  have F_Book_len := fun_mk (st := s_Book_len) l_Book_len c_Book_len k_Book_len
  have M_Book_len : MethAt K ABook "__len__" "Book.__len__" s_Book_len pm_Book_len := ⟨_, _, F_Book_len, a_Book_len, i_Book_len, F_Book_len.binds (ps := pm_Book_len) fun _ _ _ _ _ _ us hl => match us, hl with | [_], _ => rfl⟩
  have F_Book_eq := fun_mk (st := s_Book_eq) l_Book_eq c_Book_eq k_Book_eq
  have M_Book_eq : MethAt K ABook "__eq__" "Book.__eq__" s_Book_eq pm_Book_eq := ⟨_, _, F_Book_eq, a_Book_eq, i_Book_eq, F_Book_eq.binds (ps := pm_Book_eq) fun _ _ _ _ _ _ us hl => match us, hl with | [_, _], _ => rfl⟩
  have T : Txt K mg ⟨ABadPart, ABadLetter, ABadName, ABadHead, ABadUnits, AWholeError, ABook, AT0, ABODY, AREST⟩ :=
    { n_isinstance := PySem.W.mg_none_of X G n_isinstance,
      n_int := PySem.W.mg_none_of X G n_int,
      n_bool := PySem.W.mg_none_of X G n_bool,
      n_str := PySem.W.mg_none_of X G n_str,
      n_list := PySem.W.mg_none_of X G n_list,
      n_tuple := PySem.W.mg_none_of X G n_tuple,
      n_len := PySem.W.mg_none_of X G n_len,
      n_range := PySem.W.mg_none_of X G n_range,
      n_enumerate := PySem.W.mg_none_of X G n_enumerate,
      n_all := PySem.W.mg_none_of X G n_all,
      g_MOST_PLACES := ⟨_, PySem.W.mg_of X G v_MOST_PLACES⟩,
      g_ALPHABET := ⟨_, PySem.W.mg_of X G v_ALPHABET⟩,
      g_MOST_HEADS := ⟨_, PySem.W.mg_of X G v_MOST_HEADS⟩,
      g_MOST_BODY := ⟨_, PySem.W.mg_of X G v_MOST_BODY⟩,
      g_LEAST_COST := ⟨_, PySem.W.mg_of X G v_LEAST_COST⟩,
      g_MOST_COST := ⟨_, PySem.W.mg_of X G v_MOST_COST⟩,
      Book := ⟨PySem.W.mg_of X G g_Book, ⟨pg_Book, hd_Book, po_Book, sa_Book⟩, ha_Book, s_hn, s_tk, hm_Book, ne_Book, is_Book, ty_Book, tup_Book, lst_Book, int_Book, str_Book⟩,
      b_places := na_Book_places,
      b_slots := na_Book_slots,
      b_order := na_Book_order,
      BadPart := ⟨⟨⟨_, _, _, _, _, _, _, _, _, _, _, _, _, _, _, xBadPart_L, ve_one⟩, xBadPart_sa, xBadPart_ex, xBadPart_ty, xBadPart_kC⟩, PySem.W.mg_of X G g_BadPart, xBadPart_noA, ⟨xBadPart_hg, xBadPart_hk, xBadPart_ex, xBadPart_hd, xBadPart_ha, s_hn, s_tk, xBadPart_hm⟩, _, a_BadPart_init, i_BadPart_init, _, F_BadPart_init, F_BadPart_init.binds (ps := ["self", "part"]) fun _ _ _ _ _ _ us hl => match us, hl with | [_, _], _ => rfl⟩,
      BadLetter := ⟨⟨⟨_, _, _, _, _, _, _, _, _, _, _, _, _, _, _, xBadLetter_L, ve_one⟩, xBadLetter_sa, xBadLetter_ex, xBadLetter_ty, xBadLetter_kC⟩, PySem.W.mg_of X G g_BadLetter, xBadLetter_noA, ⟨xBadLetter_hg, xBadLetter_hk, xBadLetter_ex, xBadLetter_hd, xBadLetter_ha, s_hn, s_tk, xBadLetter_hm⟩, _, a_BadLetter_init, i_BadLetter_init, _, F_BadLetter_init, F_BadLetter_init.binds (ps := ["self", "spot"]) fun _ _ _ _ _ _ us hl => match us, hl with | [_, _], _ => rfl⟩,
      BadName := ⟨⟨⟨_, _, _, _, _, _, _, _, _, _, _, _, _, _, _, xBadName_L, ve_one⟩, xBadName_sa, xBadName_ex, xBadName_ty, xBadName_kC⟩, PySem.W.mg_of X G g_BadName, xBadName_noA, ⟨xBadName_hg, xBadName_hk, xBadName_ex, xBadName_hd, xBadName_ha, s_hn, s_tk, xBadName_hm⟩, _, a_BadName_init, i_BadName_init, _, F_BadName_init, F_BadName_init.binds (ps := ["self", "name"]) fun _ _ _ _ _ _ us hl => match us, hl with | [_, _], _ => rfl⟩,
      BadHead := ⟨⟨⟨_, _, _, _, _, _, _, _, _, _, _, _, _, _, _, xBadHead_L, ve_one⟩, xBadHead_sa, xBadHead_ex, xBadHead_ty, xBadHead_kC⟩, PySem.W.mg_of X G g_BadHead, xBadHead_noA, ⟨xBadHead_hg, xBadHead_hk, xBadHead_ex, xBadHead_hd, xBadHead_ha, s_hn, s_tk, xBadHead_hm⟩, _, a_BadHead_init, i_BadHead_init, _, F_BadHead_init, F_BadHead_init.binds (ps := ["self", "index"]) fun _ _ _ _ _ _ us hl => match us, hl with | [_, _], _ => rfl⟩,
      BadUnits := ⟨⟨⟨_, _, _, _, _, _, _, _, _, _, _, _, _, _, _, xBadUnits_L, ve_one⟩, xBadUnits_sa, xBadUnits_ex, xBadUnits_ty, xBadUnits_kC⟩, PySem.W.mg_of X G g_BadUnits, xBadUnits_noA, ⟨xBadUnits_hg, xBadUnits_hk, xBadUnits_ex, xBadUnits_hd, xBadUnits_ha, s_hn, s_tk, xBadUnits_hm⟩, _, a_BadUnits_init, i_BadUnits_init, _, F_BadUnits_init, F_BadUnits_init.binds (ps := ["self", "value"]) fun _ _ _ _ _ _ us hl => match us, hl with | [_, _], _ => rfl⟩,
      x_pl := exm_ref xBadLetter_ex xBadLetter_is xBadLetter_ty xo_BadPart_BadLetter,
      x_ul := exm_ref xBadLetter_ex xBadLetter_is xBadLetter_ty xo_BadUnits_BadLetter,
      x_up := exm_ref xBadPart_ex xBadPart_is xBadPart_ty xo_BadUnits_BadPart,
      x_ll := exm_ref xBadLetter_ex xBadLetter_is xBadLetter_ty xBadLetter_ss,
      x_pp := exm_ref xBadPart_ex xBadPart_is xBadPart_ty xBadPart_ss,
      x_uu := exm_ref xBadUnits_ex xBadUnits_is xBadUnits_ty xBadUnits_ss,
      g_BODY := PySem.W.mg_of X G g_BODY,
      t_BODY := fun H => .inr ⟨_, #[.str "body" tk_BODY_0], n_BODY, e_BODY, rfl, rfl, (by show 1 ≤ sizeLine; decide), .cons ⟨_, rfl⟩ (.nil)⟩,
      g_REST := PySem.W.mg_of X G g_REST,
      t_REST := fun H => .inr ⟨_, #[.str "rest" tk_REST_0], n_REST, e_REST, rfl, rfl, (by show 1 ≤ sizeLine; decide), .cons ⟨_, rfl⟩ (.nil)⟩,
      t0 := fun H => .inr ⟨_, #[], en, d_0, rfl, rfl, Nat.zero_le _, .nil⟩ }
  exact ⟨PySem.W.fnOf "law" "law" (defArgs s_law) (defBody s_law) (defScope s_law) .none kV_law dc_law pm_law_ an_law cd_law ct_law, fun s v => .of_eq rfl, fun base _ _ =>
    law_ok T D_is_integer D_is_between D_is_index D_is_list D_is_name D_is_tuple_of D_is_told_by D_is_letter D_check_heads D_is_word D_check_places D_next_of D_slots_behind D_read_head D_check_book D_is_unit D_are_units D_written D_read_letter D__law_bag D__law_draw D__law_letter D__law_use D__law_units D__law_unit D__law_holds D__law_same_order D__law_refused D__law_free D__law_odd M_Book_held M_Book_oldest_first M_Book_place_of M_Book_used M_Book_word_for M_Book_contains M_Book_len M_Book_eq  FI ⟨mk_Book, a_Book_init, i_Book_init, kc_Book⟩ B4 v3 B3 (fun_mk (st := s_law) l_law c_law k_law)⟩
theorem walk {l : PySem.W.OpenLaw} {q : Program} {loose : List Str} {XP : (Str → Option Value) → Heap → Prop} {YP : World → Heap → Prop} {d : DefRec} {K : Params → PySem.W.Frag} (hn : l.most = some 63) (hdf : d.params.defaults = [])
    (hY : ∀ (w : World) (h : Heap), YP w h → (K w.params).In h)
    (F : ∀ (w : World) (mg : Str → Option Value) (fa : Addr) (h : Heap), (K w.params).In h → h.Ns mainGlobals mg → mg d.name = some (.ref fa) →
      ∃ fd : FuncData, (∀ (s : Shared) (u : Value), BindsTo s fd ⟨[u], []⟩ [("_law_script", u)]) ∧ ∀ base : Heap, (K w.params).In base → base.Ns mainGlobals mg → FnOk l.prog w (K w.params) mg base CX0 11 fa fd ["_law_script"] (spLaw (K w.params))) :
    PySem.W.WalkO q loose XP YP l.row.toRowW d [] (fun f vs => PySem.call f vs) :=
  L2.walk_of (n := 63) (k := 11) (x := "_law_script") (CX := fun _ => CX0) (sp := fun w => spLaw (K w.params)) hn (by decide) hdf ⟨rfl, by decide, by decide⟩ hY F (fun _ _ a ns hl _ hS => ⟨a, ns, rfl, hS, hl, fun _ => rfl⟩) fun _ _ _ _ _ z => z
end K52

open PySem PySem.W PyProof.Rows in
set_option maxRecDepth 100000 in
set_option maxHeartbeats 0 in
theorem PySem.Challenge.cw_wholeline_k52_letters_as_units_holds : PySem.Challenge.rw_wholeline_k52_letters_as_units.Holds := by
  w_on; o_law; k_head; (case hw => w_witness2)
  k_fill
  refine K52.walk (l := PySem.Challenge.rw_wholeline_k52_letters_as_units) rfl rfl (fun w h Y => PySem.W.kIn_of Y) ?F
  case F =>
    intro w mg fa h KX G hmg
    refine' K52.all_mk KX G hmg ?q_g_BadPart ?q_g_BadLetter ?q_g_BadName ?q_g_BadHead ?q_g_BadUnits ?q_g_WholeError ?q_g_Book ?q_a_is_integer ?q_l_is_integer ?q_c_is_integer ?q_k_is_integer ?q_a_is_between ?q_l_is_between ?q_c_is_between ?q_k_is_between ?q_a_is_index ?q_l_is_index ?q_c_is_index ?q_k_is_index ?q_a_is_list ?q_l_is_list ?q_c_is_list ?q_k_is_list ?q_a_is_name ?q_l_is_name ?q_c_is_name ?q_k_is_name ?q_a_is_tuple_of ?q_l_is_tuple_of ?q_c_is_tuple_of ?q_k_is_tuple_of ?q_a_is_told_by ?q_l_is_told_by ?q_c_is_told_by ?q_k_is_told_by ?q_a_is_letter ?q_l_is_letter ?q_c_is_letter ?q_k_is_letter ?q_a_check_heads ?q_l_check_heads ?q_c_check_heads ?q_k_check_heads ?q_a_is_word ?q_l_is_word ?q_c_is_word ?q_k_is_word ?q_a_check_places ?q_l_check_places ?q_c_check_places ?q_k_check_places ?q_a_next_of ?q_l_next_of ?q_c_next_of ?q_k_next_of ?q_a_slots_behind ?q_l_slots_behind ?q_c_slots_behind ?q_k_slots_behind ?q_a_read_head ?q_l_read_head ?q_c_read_head ?q_k_read_head ?q_a_check_book ?q_l_check_book ?q_c_check_book ?q_k_check_book ?q_a_is_unit ?q_l_is_unit ?q_c_is_unit ?q_k_is_unit ?q_a_are_units ?q_l_are_units ?q_c_are_units ?q_k_are_units ?q_a_written ?q_l_written ?q_c_written ?q_k_written ?q_a_read_letter ?q_l_read_letter ?q_c_read_letter ?q_k_read_letter ?q_a__law_bag ?q_l__law_bag ?q_c__law_bag ?q_k__law_bag ?q_a__law_draw ?q_l__law_draw ?q_c__law_draw ?q_k__law_draw ?q_a__law_letter ?q_l__law_letter ?q_c__law_letter ?q_k__law_letter ?q_a__law_use ?q_l__law_use ?q_c__law_use ?q_k__law_use ?q_a__law_units ?q_l__law_units ?q_c__law_units ?q_k__law_units ?q_a__law_unit ?q_l__law_unit ?q_c__law_unit ?q_k__law_unit ?q_a__law_holds ?q_l__law_holds ?q_c__law_holds ?q_k__law_holds ?q_a__law_same_order ?q_l__law_same_order ?q_c__law_same_order ?q_k__law_same_order ?q_a__law_refused ?q_l__law_refused ?q_c__law_refused ?q_k__law_refused ?q_a__law_free ?q_l__law_free ?q_c__law_free ?q_k__law_free ?q_a__law_odd ?q_l__law_odd ?q_c__law_odd ?q_k__law_odd ?q_a_law ?q_l_law ?q_c_law ?q_k_law ?q_a_BadPart_init ?q_i_BadPart_init ?q_l_BadPart_init ?q_c_BadPart_init ?q_k_BadPart_init ?q_a_BadLetter_init ?q_i_BadLetter_init ?q_l_BadLetter_init ?q_c_BadLetter_init ?q_k_BadLetter_init ?q_a_BadName_init ?q_i_BadName_init ?q_l_BadName_init ?q_c_BadName_init ?q_k_BadName_init ?q_a_BadHead_init ?q_i_BadHead_init ?q_l_BadHead_init ?q_c_BadHead_init ?q_k_BadHead_init ?q_a_BadUnits_init ?q_i_BadUnits_init ?q_l_BadUnits_init ?q_c_BadUnits_init ?q_k_BadUnits_init ?q_a_Book_init ?q_i_Book_init ?q_l_Book_init ?q_c_Book_init ?q_k_Book_init ?q_a_Book_held ?q_i_Book_held ?q_l_Book_held ?q_c_Book_held ?q_k_Book_held ?q_a_Book_oldest_first ?q_i_Book_oldest_first ?q_l_Book_oldest_first ?q_c_Book_oldest_first ?q_k_Book_oldest_first ?q_a_Book_place_of ?q_i_Book_place_of ?q_l_Book_place_of ?q_c_Book_place_of ?q_k_Book_place_of ?q_a_Book_used ?q_i_Book_used ?q_l_Book_used ?q_c_Book_used ?q_k_Book_used ?q_a_Book_word_for ?q_i_Book_word_for ?q_l_Book_word_for ?q_c_Book_word_for ?q_k_Book_word_for ?q_a_Book_contains ?q_i_Book_contains ?q_l_Book_contains ?q_c_Book_contains ?q_k_Book_contains ?q_a_Book_len ?q_i_Book_len ?q_l_Book_len ?q_c_Book_len ?q_k_Book_len ?q_a_Book_eq ?q_i_Book_eq ?q_l_Book_eq ?q_c_Book_eq ?q_k_Book_eq ?q_d_T ?q_d_0 ?q_g_BODY ?q_e_BODY ?q_g_REST ?q_e_REST ?q_n_isinstance ?q_n_int ?q_n_bool ?q_n_str ?q_n_list ?q_n_tuple ?q_n_len ?q_n_range ?q_n_enumerate ?q_n_all ?q_v_MOST_PLACES ?q_v_ALPHABET ?q_v_MOST_HEADS ?q_v_MOST_BODY ?q_v_LEAST_COST ?q_v_MOST_COST ?q_s_hn ?q_s_tk ?q_pg_Book ?q_hd_Book ?q_po_Book ?q_sa_Book ?q_ha_Book ?q_hm_Book ?q_ne_Book ?q_is_Book ?q_ty_Book ?q_tup_Book ?q_lst_Book ?q_int_Book ?q_str_Book ?q_mk_Book ?q_kc_Book ?q_na_Book_places ?q_na_Book_slots ?q_na_Book_order ?q_xBadPart_L ?q_xBadPart_sa ?q_xBadPart_ex ?q_xBadPart_ty ?q_xBadPart_kC ?q_xBadPart_noA ?q_xBadPart_hg ?q_xBadPart_hk ?q_xBadPart_hd ?q_xBadPart_ha ?q_xBadPart_hm ?q_xBadPart_is ?q_xBadPart_ss ?q_xBadPart_w ?q_xBadLetter_L ?q_xBadLetter_sa ?q_xBadLetter_ex ?q_xBadLetter_ty ?q_xBadLetter_kC ?q_xBadLetter_noA ?q_xBadLetter_hg ?q_xBadLetter_hk ?q_xBadLetter_hd ?q_xBadLetter_ha ?q_xBadLetter_hm ?q_xBadLetter_is ?q_xBadLetter_ss ?q_xBadLetter_w ?q_xBadName_L ?q_xBadName_sa ?q_xBadName_ex ?q_xBadName_ty ?q_xBadName_kC ?q_xBadName_noA ?q_xBadName_hg ?q_xBadName_hk ?q_xBadName_hd ?q_xBadName_ha ?q_xBadName_hm ?q_xBadName_is ?q_xBadName_ss ?q_xBadName_w ?q_xBadHead_L ?q_xBadHead_sa ?q_xBadHead_ex ?q_xBadHead_ty ?q_xBadHead_kC ?q_xBadHead_noA ?q_xBadHead_hg ?q_xBadHead_hk ?q_xBadHead_hd ?q_xBadHead_ha ?q_xBadHead_hm ?q_xBadHead_is ?q_xBadHead_ss ?q_xBadHead_w ?q_xBadUnits_L ?q_xBadUnits_sa ?q_xBadUnits_ex ?q_xBadUnits_ty ?q_xBadUnits_kC ?q_xBadUnits_noA ?q_xBadUnits_hg ?q_xBadUnits_hk ?q_xBadUnits_hd ?q_xBadUnits_ha ?q_xBadUnits_hm ?q_xBadUnits_is ?q_xBadUnits_ss ?q_xBadUnits_w ?q_xo_BadPart_BadLetter ?q_xo_BadUnits_BadLetter ?q_xo_BadUnits_BadPart ?q_xw_i ?q_xw_t ?q_xw_b
    (case q_g_BadPart => k_is)
    (case q_g_BadLetter => k_is)
    (case q_g_BadName => k_is)
    (case q_g_BadHead => k_is)
    (case q_g_BadUnits => k_is)
    (case q_g_WholeError => k_is)
    (case q_g_Book => k_is)
    (case q_a_is_integer => k_is)
    (case q_l_is_integer => k_is)
    (case q_c_is_integer => k_is)
    (case q_k_is_integer => k_is)
    (case q_a_is_between => k_is)
    (case q_l_is_between => k_is)
    (case q_c_is_between => k_is)
    (case q_k_is_between => k_is)
    (case q_a_is_index => k_is)
    (case q_l_is_index => k_is)
    (case q_c_is_index => k_is)
    (case q_k_is_index => k_is)
    (case q_a_is_list => k_is)
    (case q_l_is_list => k_is)
    (case q_c_is_list => k_is)
    (case q_k_is_list => k_is)
    (case q_a_is_name => k_is)
    (case q_l_is_name => k_is)
    (case q_c_is_name => k_is)
    (case q_k_is_name => k_is)
    (case q_a_is_tuple_of => k_is)
    (case q_l_is_tuple_of => k_is)
    (case q_c_is_tuple_of => k_is)
    (case q_k_is_tuple_of => k_is)
    (case q_a_is_told_by => k_is)
    (case q_l_is_told_by => k_is)
    (case q_c_is_told_by => k_is)
    (case q_k_is_told_by => k_is)
    (case q_a_is_letter => k_is)
    (case q_l_is_letter => k_is)
    (case q_c_is_letter => k_is)
    (case q_k_is_letter => k_is)
    (case q_a_check_heads => k_is)
    (case q_l_check_heads => k_is)
    (case q_c_check_heads => k_is)
    (case q_k_check_heads => k_is)
    (case q_a_is_word => k_is)
    (case q_l_is_word => k_is)
    (case q_c_is_word => k_is)
    (case q_k_is_word => k_is)
    (case q_a_check_places => k_is)
    (case q_l_check_places => k_is)
    (case q_c_check_places => k_is)
    (case q_k_check_places => k_is)
    (case q_a_next_of => k_is)
    (case q_l_next_of => k_is)
    (case q_c_next_of => k_is)
    (case q_k_next_of => k_is)
    (case q_a_slots_behind => k_is)
    (case q_l_slots_behind => k_is)
    (case q_c_slots_behind => k_is)
    (case q_k_slots_behind => k_is)
    (case q_a_read_head => k_is)
    (case q_l_read_head => k_is)
    (case q_c_read_head => k_is)
    (case q_k_read_head => k_is)
    (case q_a_check_book => k_is)
    (case q_l_check_book => k_is)
    (case q_c_check_book => k_is)
    (case q_k_check_book => k_is)
    (case q_a_is_unit => k_is)
    (case q_l_is_unit => k_is)
    (case q_c_is_unit => k_is)
    (case q_k_is_unit => k_is)
    (case q_a_are_units => k_is)
    (case q_l_are_units => k_is)
    (case q_c_are_units => k_is)
    (case q_k_are_units => k_is)
    (case q_a_written => k_is)
    (case q_l_written => k_is)
    (case q_c_written => k_is)
    (case q_k_written => k_is)
    (case q_a_read_letter => k_is)
    (case q_l_read_letter => k_is)
    (case q_c_read_letter => k_is)
    (case q_k_read_letter => k_is)
    (case q_a__law_bag => k_is)
    (case q_l__law_bag => k_is)
    (case q_c__law_bag => k_is)
    (case q_k__law_bag => k_is)
    (case q_a__law_draw => k_is)
    (case q_l__law_draw => k_is)
    (case q_c__law_draw => k_is)
    (case q_k__law_draw => k_is)
    (case q_a__law_letter => k_is)
    (case q_l__law_letter => k_is)
    (case q_c__law_letter => k_is)
    (case q_k__law_letter => k_is)
    (case q_a__law_use => k_is)
    (case q_l__law_use => k_is)
    (case q_c__law_use => k_is)
    (case q_k__law_use => k_is)
    (case q_a__law_units => k_is)
    (case q_l__law_units => k_is)
    (case q_c__law_units => k_is)
    (case q_k__law_units => k_is)
    (case q_a__law_unit => k_is)
    (case q_l__law_unit => k_is)
    (case q_c__law_unit => k_is)
    (case q_k__law_unit => k_is)
    (case q_a__law_holds => k_is)
    (case q_l__law_holds => k_is)
    (case q_c__law_holds => k_is)
    (case q_k__law_holds => k_is)
    (case q_a__law_same_order => k_is)
    (case q_l__law_same_order => k_is)
    (case q_c__law_same_order => k_is)
    (case q_k__law_same_order => k_is)
    (case q_a__law_refused => k_is)
    (case q_l__law_refused => k_is)
    (case q_c__law_refused => k_is)
    (case q_k__law_refused => k_is)
    (case q_a__law_free => k_is)
    (case q_l__law_free => k_is)
    (case q_c__law_free => k_is)
    (case q_k__law_free => k_is)
    (case q_a__law_odd => k_is)
    (case q_l__law_odd => k_is)
    (case q_c__law_odd => k_is)
    (case q_k__law_odd => k_is)
    (case q_a_law => k_is)
    (case q_l_law => k_is)
    (case q_c_law => k_is)
    (case q_k_law => k_is)
    (case q_a_BadPart_init => k_is)
    (case q_i_BadPart_init => k_is)
    (case q_l_BadPart_init => k_is)
    (case q_c_BadPart_init => k_is)
    (case q_k_BadPart_init => k_is)
    (case q_a_BadLetter_init => k_is)
    (case q_i_BadLetter_init => k_is)
    (case q_l_BadLetter_init => k_is)
    (case q_c_BadLetter_init => k_is)
    (case q_k_BadLetter_init => k_is)
    (case q_a_BadName_init => k_is)
    (case q_i_BadName_init => k_is)
    (case q_l_BadName_init => k_is)
    (case q_c_BadName_init => k_is)
    (case q_k_BadName_init => k_is)
    (case q_a_BadHead_init => k_is)
    (case q_i_BadHead_init => k_is)
    (case q_l_BadHead_init => k_is)
    (case q_c_BadHead_init => k_is)
    (case q_k_BadHead_init => k_is)
    (case q_a_BadUnits_init => k_is)
    (case q_i_BadUnits_init => k_is)
    (case q_l_BadUnits_init => k_is)
    (case q_c_BadUnits_init => k_is)
    (case q_k_BadUnits_init => k_is)
    (case q_a_Book_init => k_is)
    (case q_i_Book_init => k_is)
    (case q_l_Book_init => k_is)
    (case q_c_Book_init => k_is)
    (case q_k_Book_init => k_is)
    (case q_a_Book_held => k_is)
    (case q_i_Book_held => k_is)
    (case q_l_Book_held => k_is)
    (case q_c_Book_held => k_is)
    (case q_k_Book_held => k_is)
    (case q_a_Book_oldest_first => k_is)
    (case q_i_Book_oldest_first => k_is)
    (case q_l_Book_oldest_first => k_is)
    (case q_c_Book_oldest_first => k_is)
    (case q_k_Book_oldest_first => k_is)
    (case q_a_Book_place_of => k_is)
    (case q_i_Book_place_of => k_is)
    (case q_l_Book_place_of => k_is)
    (case q_c_Book_place_of => k_is)
    (case q_k_Book_place_of => k_is)
    (case q_a_Book_used => k_is)
    (case q_i_Book_used => k_is)
    (case q_l_Book_used => k_is)
    (case q_c_Book_used => k_is)
    (case q_k_Book_used => k_is)
    (case q_a_Book_word_for => k_is)
    (case q_i_Book_word_for => k_is)
    (case q_l_Book_word_for => k_is)
    (case q_c_Book_word_for => k_is)
    (case q_k_Book_word_for => k_is)
    (case q_a_Book_contains => k_is)
    (case q_i_Book_contains => k_is)
    (case q_l_Book_contains => k_is)
    (case q_c_Book_contains => k_is)
    (case q_k_Book_contains => k_is)
    (case q_a_Book_len => k_is)
    (case q_i_Book_len => k_is)
    (case q_l_Book_len => k_is)
    (case q_c_Book_len => k_is)
    (case q_k_Book_len => k_is)
    (case q_a_Book_eq => k_is)
    (case q_i_Book_eq => k_is)
    (case q_l_Book_eq => k_is)
    (case q_c_Book_eq => k_is)
    (case q_k_Book_eq => k_is)
    (case q_d_T => k_is)
    (case q_d_0 => k_is)
    (case q_g_BODY => k_is)
    (case q_e_BODY => k_is)
    (case q_g_REST => k_is)
    (case q_e_REST => k_is)
    (case q_n_isinstance => k_is)
    (case q_n_int => k_is)
    (case q_n_bool => k_is)
    (case q_n_str => k_is)
    (case q_n_list => k_is)
    (case q_n_tuple => k_is)
    (case q_n_len => k_is)
    (case q_n_range => k_is)
    (case q_n_enumerate => k_is)
    (case q_n_all => k_is)
    (case q_v_MOST_PLACES => k_is)
    (case q_v_ALPHABET => k_is)
    (case q_v_MOST_HEADS => k_is)
    (case q_v_MOST_BODY => k_is)
    (case q_v_LEAST_COST => k_is)
    (case q_v_MOST_COST => k_is)
    (case q_s_hn => k_is)
    (case q_s_tk => k_is)
    (case q_pg_Book => k_is)
    (case q_hd_Book => k_is)
    (case q_po_Book => k_is)
    (case q_sa_Book => k_is)
    (case q_ha_Book => k_is)
    (case q_hm_Book => k_is)
    (case q_ne_Book => k_is)
    (case q_is_Book => k_is)
    (case q_ty_Book => k_is)
    (case q_tup_Book => k_is)
    (case q_lst_Book => k_is)
    (case q_int_Book => k_is)
    (case q_str_Book => k_is)
    (case q_mk_Book => k_is)
    (case q_kc_Book => k_is)
    (case q_na_Book_places => k_is)
    (case q_na_Book_slots => k_is)
    (case q_na_Book_order => k_is)
    (case q_xBadPart_L => k_is)
    (case q_xBadPart_sa => k_is)
    (case q_xBadPart_ex => k_is)
    (case q_xBadPart_ty => k_is)
    (case q_xBadPart_kC => k_is)
    (case q_xBadPart_noA => k_is)
    (case q_xBadPart_hg => k_is)
    (case q_xBadPart_hk => k_is)
    (case q_xBadPart_hd => k_is)
    (case q_xBadPart_ha => k_is)
    (case q_xBadPart_hm => k_is)
    (case q_xBadPart_is => k_is)
    (case q_xBadPart_ss => k_is)
    (case q_xBadPart_w => k_is)
    (case q_xBadLetter_L => k_is)
    (case q_xBadLetter_sa => k_is)
    (case q_xBadLetter_ex => k_is)
    (case q_xBadLetter_ty => k_is)
    (case q_xBadLetter_kC => k_is)
    (case q_xBadLetter_noA => k_is)
    (case q_xBadLetter_hg => k_is)
    (case q_xBadLetter_hk => k_is)
    (case q_xBadLetter_hd => k_is)
    (case q_xBadLetter_ha => k_is)
    (case q_xBadLetter_hm => k_is)
    (case q_xBadLetter_is => k_is)
    (case q_xBadLetter_ss => k_is)
    (case q_xBadLetter_w => k_is)
    (case q_xBadName_L => k_is)
    (case q_xBadName_sa => k_is)
    (case q_xBadName_ex => k_is)
    (case q_xBadName_ty => k_is)
    (case q_xBadName_kC => k_is)
    (case q_xBadName_noA => k_is)
    (case q_xBadName_hg => k_is)
    (case q_xBadName_hk => k_is)
    (case q_xBadName_hd => k_is)
    (case q_xBadName_ha => k_is)
    (case q_xBadName_hm => k_is)
    (case q_xBadName_is => k_is)
    (case q_xBadName_ss => k_is)
    (case q_xBadName_w => k_is)
    (case q_xBadHead_L => k_is)
    (case q_xBadHead_sa => k_is)
    (case q_xBadHead_ex => k_is)
    (case q_xBadHead_ty => k_is)
    (case q_xBadHead_kC => k_is)
    (case q_xBadHead_noA => k_is)
    (case q_xBadHead_hg => k_is)
    (case q_xBadHead_hk => k_is)
    (case q_xBadHead_hd => k_is)
    (case q_xBadHead_ha => k_is)
    (case q_xBadHead_hm => k_is)
    (case q_xBadHead_is => k_is)
    (case q_xBadHead_ss => k_is)
    (case q_xBadHead_w => k_is)
    (case q_xBadUnits_L => k_is)
    (case q_xBadUnits_sa => k_is)
    (case q_xBadUnits_ex => k_is)
    (case q_xBadUnits_ty => k_is)
    (case q_xBadUnits_kC => k_is)
    (case q_xBadUnits_noA => k_is)
    (case q_xBadUnits_hg => k_is)
    (case q_xBadUnits_hk => k_is)
    (case q_xBadUnits_hd => k_is)
    (case q_xBadUnits_ha => k_is)
    (case q_xBadUnits_hm => k_is)
    (case q_xBadUnits_is => k_is)
    (case q_xBadUnits_ss => k_is)
    (case q_xBadUnits_w => k_is)
    (case q_xo_BadPart_BadLetter => k_is)
    (case q_xo_BadUnits_BadLetter => k_is)
    (case q_xo_BadUnits_BadPart => k_is)
    (case q_xw_i => k_is)
    (case q_xw_t => k_is)
    (case q_xw_b => k_is)
