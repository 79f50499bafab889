import PyProof.Rows.All
import Wide.All
import OpenK.AllK
import Wide.FinOn
import PyProof.EqAt
import PyProof.EqKinds
import PyProof.TupleCall
import HandS.Base
import HandS.Call
import HandS.List
import HandS.Comp
import HandS.Ends
import HandS.Words
import HandS.WordsList
import HandS.Exc
import HandS.ExcInit
import HandS.ExcIs
import HandS.OwnEq
import HandS.IsInst
import HandS.ExcOwn
import HandS.ExcField
import HandS.WordsExc
import HandS.TryOnly
import HandS.TryMany
import HandS.CallSlots
import HandS.Wide
import HandS.Codes
import KE.KTupSum
import PyProof.ListRange
import KE.GoesEnum
import HandS.Iter
import HandS.Walk
import HandS.HotCalls
import KE.KEqNest
import HandS.MakeKwOnly
import HandS.TupAny
import HandS.Strs
import HandS.Deep
import HandS.Zip
import HandS.Star
import HandS.Conv
import HandS.IterVal
import HandS.ListItems
import KE.KDictZip
import KE.DataFind
import HandS.GenCall
import HandS.GenList
import KE.DataMinMax
import HandS.SortKw
import KE.KExcInit
import HandS.SetFor
import HandS.Style
import KE.GoesZip
import KE.GoesMore
import HandS.Remove
import HandS.SlotsOwn
import KE.GoesEnumKw
import PyProof.Rows.CallKwBuiltin
import PyProof.Rows.ReprR
import HandS.Defaults
import HandS.Evl
import HandS.NoneIn
import PySem.Challenge.RW_wholeline_k03_books_refused
set_option Elab.async false
namespace K02
set_option linter.unusedSectionVars false
/-! a book: its slots, and the order of its places; plain mathematics -/
variable {α : Type} [DecidableEq α]
def at1 {β : Type} [DecidableEq β] : List β → β → Nat
  | [], _ => 0
  | y :: ys, x => if y = x then 0 else at1 ys x + 1
theorem at1_mem {β : Type} [DecidableEq β] : ∀ {l : List β} {x : β}, x ∈ l → l[at1 l x]? = some x ∧ ∀ m y, m < at1 l x → l[m]? = some y → y ≠ x
  | [], _, h => nomatch h
  | y :: ys, x, h => by
    unfold at1
    by_cases e : y = x
    · rw [if_pos e, e]
      exact ⟨rfl, fun m _ hm => absurd hm (Nat.not_lt_zero _)⟩
    · rw [if_neg e]
      have hx : x ∈ ys := (List.mem_cons.mp h).resolve_left fun z => e z.symm
      obtain ⟨h1, h2⟩ := at1_mem hx
      refine ⟨h1, fun m z hm hz => ?_⟩
      cases m with
      | zero => cases hz; exact e
      | succ m => exact h2 m z (Nat.lt_of_succ_lt_succ hm) hz
theorem at1_eq {β : Type} [DecidableEq β] {l : List β} {x : β} {j : Nat} (h1 : l[j]? = some x) (h2 : ∀ m y, m < j → l[m]? = some y → y ≠ x) : at1 l x = j := by
  obtain ⟨a1, a2⟩ := at1_mem (List.mem_of_getElem? h1)
  rcases Nat.lt_trichotomy (at1 l x) j with h | h | h
  · exact absurd rfl (h2 _ _ h a1)
  · exact h
  · exact absurd rfl (a2 _ _ h h1)
theorem tk {β : Type} {l : List β} {i : Nat} (h : i < l.length) : l.take (i + 1) = l.take i ++ [l[i]] := by
  rw [List.take_succ, List.getElem?_eq_getElem h]
  rfl
abbrev St (α : Type) := List (Option α) × List Nat
def nextP (s : St α) : Option Nat := if s.2.length < s.1.length then some (at1 s.1 none) else s.2.head?
def place (s : St α) (h : α) : Option Nat := if some h ∈ s.1 then some (at1 s.1 (some h)) else nextP s
def put (s : St α) (h : α) (p : Nat) : St α := (s.1.set p (some h), s.2.filter (fun o => decide (o ≠ p)) ++ [p])
def step (s : St α) (h : α) : St α := match place s h with
  | none => s
  | some p => put s h p
def emp (n : Nat) : St α := (List.replicate n none, [])
def run (n : Nat) (us : List α) : St α := us.foldl step (emp n)
/-- the names that are held, the slots and the order by them -/
structure Ok (n : Nat) (s : St α) (ns : List α) : Prop where
  nd : ns.Nodup
  le : ns.length ≤ n
  sl : s.1 = ns.map some ++ List.replicate (n - ns.length) none
  od : s.2.Perm (List.range ns.length)
section
variable {n : Nat} {s : St α} {ns : List α}
theorem Ok.len (o : Ok n s ns) : s.1.length = n := by
  rw [o.sl, List.length_append, List.length_map, List.length_replicate]
  have := o.le
  omega
theorem Ok.olen (o : Ok n s ns) : s.2.length = ns.length := by rw [o.od.length_eq, List.length_range]
theorem Ok.ond (o : Ok n s ns) : s.2.Nodup := o.od.nodup_iff.mpr List.nodup_range
theorem Ok.omem (o : Ok n s ns) {i : Nat} : i ∈ s.2 ↔ i < ns.length := by rw [o.od.mem_iff, List.mem_range]
theorem Ok.get (o : Ok n s ns) {i : Nat} (h : i < ns.length) : s.1[i]? = some (some ns[i]) := by
  rw [o.sl, List.getElem?_append_left (by rw [List.length_map]; exact h), List.getElem?_map, List.getElem?_eq_getElem h]
  rfl
theorem Ok.blank (o : Ok n s ns) {i : Nat} (h : ns.length ≤ i) (hn : i < n) : s.1[i]? = some none := by
  rw [o.sl, List.getElem?_append_right (by rw [List.length_map]; exact h), List.length_map, List.getElem?_replicate, if_pos (by omega)]
theorem Ok.mem (o : Ok n s ns) {x : α} : some x ∈ s.1 ↔ x ∈ ns := by
  rw [o.sl, List.mem_append]
  simp
theorem Ok.atn (o : Ok n s ns) (h : ns.length < n) : at1 s.1 none = ns.length := by
  refine at1_eq (o.blank (Nat.le_refl _) h) fun m y hm hy => ?_
  rw [o.get hm] at hy
  cases hy
  exact fun z => nomatch z
theorem Ok.ats (o : Ok n s ns) {i : Nat} (h : i < ns.length) : at1 s.1 (some ns[i]) = i := by
  refine at1_eq (o.get h) fun m y hm hy => ?_
  rw [o.get (by omega)] at hy
  cases hy
  intro z
  injection z with z
  have := (List.getElem_inj o.nd).mp z
  omega
theorem Ok.nonemem (o : Ok n s ns) : Option.none ∈ s.1 ↔ ns.length < n := by
  rw [o.sl, List.mem_append]
  constructor
  · rintro (h | h)
    · obtain ⟨_, _, h⟩ := List.mem_map.mp h
      cases h
    · have := (List.mem_replicate.mp h).1
      omega
  · intro h
    exact .inr (List.mem_replicate.mpr ⟨by omega, rfl⟩)
theorem ok_emp : Ok n (emp n : St α) [] := ⟨List.nodup_nil, Nat.zero_le _, by unfold emp; simp, by unfold emp; simp⟩
theorem filter_ne {l : List Nat} (hd : l.Nodup) (p : Nat) : l.filter (fun o => decide (o ≠ p)) = l.erase p := by
  rw [List.Nodup.erase_eq_filter hd]
  refine List.filter_congr fun x _ => ?_
  by_cases h : x = p
  · simp [h]
  · simp [h]
theorem perm_put {l : List Nat} {k p : Nat} (h : l.Perm (List.range k)) (hp : p < k) : (l.filter (fun o => decide (o ≠ p)) ++ [p]).Perm (List.range k) := by
  have hd : l.Nodup := h.nodup_iff.mpr List.nodup_range
  rw [filter_ne hd]
  have hm : p ∈ l := h.mem_iff.mpr (List.mem_range.mpr hp)
  exact (List.perm_append_comm.trans (List.perm_cons_erase hm).symm).trans h
/-- one use more -/
theorem ok_step (o : Ok n s ns) (h : α) : ∃ ns', Ok n (step s h) ns' ∧ (∀ x, x ∈ ns' → x ∈ ns ∨ x = h) := by
  unfold step place
  by_cases hm : some h ∈ s.1
  · rw [if_pos hm]
    have hn := o.mem.mp hm
    obtain ⟨i, hi, he⟩ := List.getElem_of_mem hn
    have ha : at1 s.1 (some h) = i := by rw [← he]; exact o.ats hi
    dsimp only
    rw [ha]
    unfold put
    refine ⟨ns, ⟨o.nd, o.le, ?_, perm_put o.od hi⟩, fun x hx => .inl hx⟩
    have : s.1.set i (some h) = s.1 := by
      refine List.ext_getElem? fun j => ?_
      by_cases hj : j = i
      · subst hj
        rw [List.getElem?_set_self (by rw [o.len]; have := o.le; omega), o.get hi, he]
      · rw [List.getElem?_set_ne (fun z => hj z.symm)]
    show s.1.set i (some h) = _
    rw [this]
    exact o.sl
  · rw [if_neg hm]
    unfold nextP
    rw [o.olen, o.len]
    by_cases hl : ns.length < n
    · rw [if_pos hl, o.atn hl]
      refine ⟨ns ++ [h], ⟨?_, ?_, ?_, ?_⟩, fun x hx => ?_⟩
      · rw [List.nodup_append]
        refine ⟨o.nd, by simp, fun a ha b hb => ?_⟩
        rw [List.mem_singleton.mp hb]
        rintro rfl
        exact hm (o.mem.mpr ha)
      · rw [List.length_append]
        exact hl
      · show s.1.set ns.length (some h) = _
        rw [o.sl, List.set_append_right _ _ (by rw [List.length_map]; exact Nat.le_refl _), List.length_map, Nat.sub_self, List.length_append, List.map_append]
        have : n - ns.length = (n - (ns.length + 1)) + 1 := by omega
        rw [this, List.replicate_succ]
        simp
      · show (s.2.filter (fun o => decide (o ≠ ns.length)) ++ [ns.length]).Perm _
        have : s.2.filter (fun o => decide (o ≠ ns.length)) = s.2 := by
          rw [List.filter_eq_self]
          intro x hx
          have := o.omem.mp hx
          simp
          omega
        rw [this, List.length_append, List.length_singleton, List.range_succ]
        exact o.od.append_right _
      · rcases List.mem_append.mp hx with h' | h'
        · exact .inl h'
        · exact .inr (List.mem_singleton.mp h')
    · rw [if_neg hl]
      have hk : ns.length = n := by have := o.le; omega
      cases hO : s.2 with
      | nil => exact ⟨ns, o, fun x hx => .inl hx⟩
      | cons p O' =>
        have hp : p < ns.length := o.omem.mp (by rw [hO]; exact List.mem_cons_self)
        refine ⟨ns.set p h, ⟨?_, ?_, ?_, ?_⟩, fun x hx => ?_⟩
        · rw [List.nodup_iff_pairwise_ne, List.pairwise_iff_getElem]
          intro i j hi hj hij
          rw [List.length_set] at hi hj
          have nd := List.pairwise_iff_getElem.mp (List.nodup_iff_pairwise_ne.mp o.nd) i j hi hj hij
          have hn : h ∉ ns := fun z => hm (o.mem.mpr z)
          rw [List.getElem_set, List.getElem_set]
          by_cases h1 : p = i
          · rw [if_pos h1, if_neg (by omega)]
            intro z
            exact hn (z ▸ List.getElem_mem hj)
          · rw [if_neg h1]
            by_cases h2 : p = j
            · rw [if_pos h2]
              intro z
              exact hn (z ▸ List.getElem_mem hi)
            · rw [if_neg h2]
              exact nd
        · rw [List.length_set]
          exact o.le
        · show s.1.set p (some h) = _
          rw [o.sl, List.set_append_left _ _ (by rw [List.length_map]; exact hp), List.length_set, List.map_set]
        · rw [List.length_set]
          exact perm_put (by exact hO ▸ o.od) hp
        · rcases List.mem_or_eq_of_mem_set hx with h' | h'
          · exact .inl h'
          · exact .inr h'
end
/-- the law's own use -/
def lstep (s : St α) (h : α) : St α :=
  if some h ∈ s.1 then (s.1.set (at1 s.1 (some h)) (some h), s.2.erase (at1 s.1 (some h)) ++ [at1 s.1 (some h)])
  else if none ∈ s.1 then (s.1.set (at1 s.1 none) (some h), s.2 ++ [at1 s.1 none])
  else match s.2 with
    | p :: O => (s.1.set p (some h), O ++ [p])
    | [] => s
theorem lstep_step {n : Nat} {s : St α} {ns : List α} (o : Ok n s ns) (h : α) : lstep s h = step s h := by
  unfold lstep step place nextP put
  by_cases hm : some h ∈ s.1
  · rw [if_pos hm, if_pos hm]
    dsimp only
    rw [filter_ne o.ond]
  · rw [if_neg hm, if_neg hm, o.olen, o.len]
    by_cases hl : ns.length < n
    · rw [if_pos (o.nonemem.mpr hl), if_pos hl]
      dsimp only
      rw [o.atn hl]
      have : s.2.filter (fun x => decide (x ≠ ns.length)) = s.2 := by
        rw [List.filter_eq_self]
        intro x hx
        have := o.omem.mp hx
        simp
        omega
      rw [this]
    · rw [if_neg (fun z => hl (o.nonemem.mp z)), if_neg hl]
      cases hO : s.2 with
      | nil => rfl
      | cons p O =>
        dsimp only [List.head?]
        have hd := o.ond
        rw [hO] at hd
        rw [filter_ne hd, List.erase_cons_head]
def lnext (s : St α) : Option Nat := if none ∈ s.1 then some (at1 s.1 none) else s.2.head?
theorem lnext_next {n : Nat} {s : St α} {ns : List α} (o : Ok n s ns) : lnext s = nextP s := by
  unfold lnext nextP
  rw [o.olen, o.len]
  by_cases hl : ns.length < n
  · rw [if_pos (o.nonemem.mpr hl), if_pos hl]
  · rw [if_neg (fun z => hl (o.nonemem.mp z)), if_neg hl]
/-! a book is made again of what it holds and of its order -/
theorem run_names {n : Nat} {ns : List α} (nd : ns.Nodup) (le : ns.length ≤ n) : ∀ j, j ≤ ns.length → run n (ns.take j) = ((ns.take j).map some ++ List.replicate (n - j) none, List.range j)
  | 0, _ => by unfold run emp; simp
  | j + 1, hj => by
    have hjl : j < ns.length := hj
    have ih := run_names nd le j (Nat.le_of_lt hjl)
    have ok : Ok n (run n (ns.take j)) (ns.take j) := by
      rw [ih]
      refine ⟨nd.sublist (List.take_sublist _ _), by rw [List.length_take]; omega, ?_, ?_⟩
      · rw [List.length_take, Nat.min_eq_left (Nat.le_of_lt hjl)]
      · rw [List.length_take, Nat.min_eq_left (Nat.le_of_lt hjl)]
    have hlen : (ns.take j).length = j := by rw [List.length_take, Nat.min_eq_left (Nat.le_of_lt hjl)]
    have e : run n (ns.take (j + 1)) = step (run n (ns.take j)) ns[j] := by
      unfold run
      rw [tk hjl, List.foldl_append]
      rfl
    have hnot : ns[j] ∉ ns.take j := fun h => by
      obtain ⟨i, hi, he⟩ := List.getElem_of_mem h
      rw [List.getElem_take] at he
      have := (List.getElem_inj nd).mp he
      rw [hlen] at hi
      omega
    rw [e]
    unfold step place nextP
    rw [if_neg (fun z => hnot (ok.mem.mp z)), ok.olen, ok.len, hlen, if_pos (by omega), ok.atn (by omega), hlen, ih]
    unfold put
    dsimp only
    have h1 : ((ns.take j).map some ++ List.replicate (n - j) none).set j (some ns[j]) = (ns.take (j + 1)).map some ++ List.replicate (n - (j + 1)) none := by
      rw [List.set_append_right _ _ (by rw [List.length_map, hlen]; exact Nat.le_refl _), List.length_map, hlen, Nat.sub_self, tk hjl, List.map_append]
      have : n - j = (n - (j + 1)) + 1 := by omega
      rw [this, List.replicate_succ]
      simp
    have h2 : (List.range j).filter (fun o => decide (o ≠ j)) = List.range j := by
      rw [List.filter_eq_self]
      intro x hx
      have := List.mem_range.mp hx
      simp
      omega
    rw [h1, h2, List.range_succ]
theorem run_order {S : List (Option α)} {n : Nat} {ns : List α} (nd : ns.Nodup) (le : ns.length ≤ n) (hS : S = ns.map some ++ List.replicate (n - ns.length) none) {O : List Nat} (hO : O.Perm (List.range ns.length)) {us : List α} (hl : us.length = O.length) (hu : ∀ j i : Nat, O[j]? = some i → us[j]? = ns[i]?) :
    ∀ j, j ≤ O.length → (us.take j).foldl step (S, List.range ns.length) = (S, (List.range ns.length).filter (fun x => decide (x ∉ O.take j)) ++ O.take j)
  | 0, _ => by
    have : (List.range ns.length).filter (fun x => decide (x ∉ O.take 0)) = List.range ns.length := List.filter_eq_self.mpr fun x _ => by simp
    rw [this]
    simp
  | j + 1, hj => by
    have hjl : j < O.length := hj
    have hju : j < us.length := by omega
    have ih := run_order nd le hS hO hl hu j (Nat.le_of_lt hjl)
    have hd : O.Nodup := hO.nodup_iff.mpr List.nodup_range
    have hi : O[j] < ns.length := List.mem_range.mp (hO.mem_iff.mp (List.getElem_mem hjl))
    have hus : us[j] = ns[O[j]] := by
      have := hu j O[j] (List.getElem?_eq_getElem hjl)
      rw [List.getElem?_eq_getElem hju, List.getElem?_eq_getElem hi] at this
      exact Option.some.inj this
    rw [tk hju, List.foldl_append, ih]
    show step (S, _) us[j] = _
    have ok : Ok n (S, List.range ns.length) ns := ⟨nd, le, hS, List.Perm.refl _⟩
    have hm : some us[j] ∈ S := by rw [hus]; exact ok.mem.mpr (List.getElem_mem hi)
    have ha : at1 S (some us[j]) = O[j] := by rw [hus]; exact ok.ats hi
    have hset : S.set O[j] (some us[j]) = S := by
      refine List.ext_getElem? fun m => ?_
      by_cases hj : m = O[j]
      · rw [hj, List.getElem?_set_self (by have := ok.len; show O[j] < S.length; have h2 : S.length = n := this; omega), hus]
        exact (ok.get hi).symm
      · rw [List.getElem?_set_ne (fun z => hj z.symm)]
    unfold step place
    rw [if_pos hm]
    dsimp only
    rw [ha]
    unfold put
    dsimp only
    rw [hset, List.filter_append, List.filter_filter]
    have hnot : O[j] ∉ O.take j := fun h => by
      obtain ⟨i, hi', he⟩ := List.getElem_of_mem h
      rw [List.getElem_take] at he
      have := (List.getElem_inj hd).mp he
      rw [List.length_take] at hi'
      omega
    have h2 : (O.take j).filter (fun o => decide (o ≠ O[j])) = O.take j := by
      rw [List.filter_eq_self]
      intro x hx
      simp
      rintro rfl
      exact hnot hx
    rw [h2, tk hjl, List.append_assoc]
    have h3 : (List.range ns.length).filter (fun x => decide (x ≠ O[j]) && decide (x ∉ O.take j)) = (List.range ns.length).filter (fun x => decide (x ∉ O.take j ++ [O[j]])) := by
      refine List.filter_congr fun x _ => ?_
      have hx : (x ∉ O.take j ++ [O[j]]) ↔ (x ≠ O[j] ∧ x ∉ O.take j) := by
        rw [List.mem_append, List.mem_singleton, not_or]
        exact and_comm
      rw [decide_eq_decide.mpr hx, Bool.decide_and]
    rw [h3]
theorem rebuilt {n : Nat} {s : St α} {ns : List α} (o : Ok n s ns) {us : List α} (hl : us.length = s.2.length) (hu : ∀ j i : Nat, s.2[j]? = some i → us[j]? = ns[i]?) (h : α) : run n (ns ++ us ++ [h]) = step s h := by
  have e1 := run_names o.nd o.le ns.length (Nat.le_refl _)
  rw [List.take_length] at e1
  have e2 := run_order o.nd o.le o.sl o.od hl hu s.2.length (Nat.le_refl _)
  rw [List.take_of_length_le (by omega : us.length ≤ s.2.length), List.take_length] at e2
  have e3 : (List.range ns.length).filter (fun x => decide (x ∉ s.2)) = [] := by
    rw [List.filter_eq_nil_iff]
    intro x hx
    have := o.omem.mpr (List.mem_range.mp hx)
    simp [this]
  rw [e3, List.nil_append] at e2
  have e4 : run n (ns ++ us ++ [h]) = step ((us.foldl step (run n ns))) h := by
    unfold run
    rw [List.foldl_append, List.foldl_append]
    rfl
  rw [e4, e1, ← o.sl, e2]
/-- what is held, in its slots -/
theorem held_names {n : Nat} {s : St α} {ns : List α} (o : Ok n s ns) : s.1.filterMap id = ns := by
  rw [o.sl, List.filterMap_append]
  have h1 : (ns.map some).filterMap id = ns := by
    rw [List.filterMap_map]
    exact List.filterMap_some
  have h2 : (List.replicate (n - ns.length) (none : Option α)).filterMap id = [] := by
    rw [List.filterMap_eq_nil_iff]
    intro a ha
    rw [(List.mem_replicate.mp ha).2]
    rfl
  rw [h1, h2, List.append_nil]
end K02

set_option Elab.async false
set_option maxRecDepth 100000
set_option maxHeartbeats 4000000
namespace PySem.W
open PySem PySem.Calls PyProof.Rows
section
variable {prog : Program} {w : World} {A : Around} {E : Value → Shared → Prop} {s : Shared} {K : Frag} {x C L f : Addr} {h₀ : Heap} {m : Str → Option Value} {ox : Obj} {od : Option Obj} {b tb : Value}
theorem objNe_K {Q : Fin → Shared → Prop} (hu : A.units < cLine) (X : K.In s.heap) (I : InstAt s.heap x ox C od)
    (hs : findIn K (.ref C) "__eq__" = some (some (.ref f))) (hf : isFn K (.ref f) = true)
    (h : wpAny (model prog w) A (call (.ref f) [.ref x, b]) (fun v s' => ∃ r, v = .bool r ∧ Q (.done (.ret (.bool (!r)))) s') E s) :
    wpAny (model prog w) A (Builtin.«object.__ne__» ⟨[.ref x, b], []⟩) Q E s := by
  obtain ⟨hp, g, d, tk, os⟩ := s
  unfold Builtin.«object.__ne__»
  repeat (first
    | with_reducible refine wpAny_cRoomFor hu ?_
    | (refine wpAny_bind (m := callSpecialIfBound? (.ref x) (Str.ofString "__eq__") [b])
        (ifBound_K X I hs hf (wpAny_mono h (fun r s' hr => by
          obtain ⟨b, rfl, hq⟩ := hr
          repeat (first | exact hq | exact wpAny_pure hq | exact wpAny_truthy_bool hq | (refine wpAny_bind (m := truthy (.bool _)) (wpAny_truthy_bool ?_)) | wp_step)) fun _ _ e => e)))
    | wp_step)
theorem cmpNe_K {Q : Value → Shared → Prop} (hu : A.units + 1 < cLine) (F : Fr h₀ L s.heap m) (X₀ : K.In h₀) (I : InstAt s.heap x ox C od) (hb : Looks (model prog w) s.heap (typeOf b) tb) (hn : notFirst K C tb = true)
    (hne : findIn K (.ref C) "__ne__" = some (some (.builtin "object.__ne__"))) (hm : mroIn K C (.type "object") = some true)
    (hs : findIn K (.ref C) "__eq__" = some (some (.ref f))) (hf : isFn K (.ref f) = true)
    (h : wpAny (model prog w) A.in1 (call (.ref f) [.ref x, b]) (fun v s' => ∃ r, v = .bool r ∧ Q (.bool (!r)) s') E s) : wpAny (model prog w) A (richCompare .NotEq (.ref x) b) Q E s := by
  have X := X₀.keeps F.keep
  have sub : Looks (model prog w) s.heap (isInstance (.ref x) (.type "object")) true := I.type.andThen (looks_mroIn X hm)
  have one : wpAny (model prog w) A (tryCompare (.ref x) "__ne__" b) (fun r s' => ∃ v, r = some v ∧ Q v s') E s := by
    unfold tryCompare
    refine wpAny_bind ?_
    simp only [callSpecialIfBound?, bindSpecialIfBound?]
    refine wpAny_holding (wpAny_bind (wpAny_bind (wpAny_bind (I.type.here ((looks_findIn X hne).here ?_)))))
    simp only [PySem.F.cmp_object.ne.bind]
    refine wpAny_bind (wpAny_askSetting (wpAny_ite ?_))
    have fin : wpAny (model prog w) A (call (.builtin "object.__ne__") ([.ref x] ++ [b]) >>= fun v => pure (some v)) (fun r s' => wpAny (model prog w) A (match r with
        | some .notImplemented | none => pure none
        | some v => pure (some v)) (fun r s' => ∃ v, r = some v ∧ Q v s') E s') E s := by
      refine wpAny_bind (wpAny_call (codeAny_call_builtin PySem.F.cmp_object.ne.plain PySem.F.cmpEntry_ne (check_slot PySem.F.cmpKind_ne PySem.F.cmpSplit_ne sub (PySem.F.cmpArgs_ne _ _)
        (objNe_K (A := A.in1) hu X I hs hf (wpAny_mono h (fun v s' hv => ?_) fun _ _ e => e)))))
      obtain ⟨r, rfl, hq⟩ := hv
      first | exact ⟨r, rfl, wpAny_pure (wpAny_pure ⟨_, rfl, hq⟩)⟩ | exact ⟨r, rfl, wpAny_pure ⟨_, rfl, hq⟩⟩
    split
    · repeat (first | exact fin | with_reducible refine wpAny_pure ?_ | with_reducible refine wpAny_bind ?_ | with_reducible refine wpAny_tryCatch ?_)
    · refine wpAny_tryCatch ?_
      repeat (first | exact fin | with_reducible refine wpAny_pure ?_ | with_reducible refine wpAny_bind ?_)
  unfold richCompare
  simp only [oneThing_ref]
  refine wpAny_holding (wpAny_bind (wpAny_cRoomFor (Nat.lt_of_succ_lt hu) ?_))
  refine wpAny_bind (I.type.here (wpAny_bind (hb.here ?_)))
  split
  · rename_i q
    have e : subIn K tb (.ref C) = some false := by
      rcases Bool.or_eq_true_iff.mp hn with e | e
      · rw [beq_iff_eq.mp e] at q; simp at q
      · exact beq_iff_eq.mp e
    refine wpAny_bind ((looks_subIn X e).here ?_)
    simp only [Bool.false_eq_true, if_false]
    refine wpAny_bind (wpAny_mono one (fun r s' z => ?_) fun _ _ e => e)
    obtain ⟨v, rfl, hq⟩ := z
    exact wpAny_pure hq
  · refine wpAny_bind (wpAny_pure ?_)
    simp only [Bool.false_eq_true, if_false]
    refine wpAny_bind (wpAny_mono one (fun r s' z => ?_) fun _ _ e => e)
    obtain ⟨v, rfl, hq⟩ := z
    exact wpAny_pure hq
end
end PySem.W

set_option Elab.async false
set_option maxRecDepth 100000
set_option maxHeartbeats 4000000
namespace L2
open PySem PySem.Spec PyProof.Rows
section
variable {X : Cx} {CX : CXT} {k : Nat} {f C : Addr} {fd : FuncData} {ps : List Str} {sp : Sp}
/-- the own method f, called at some frame below with room -/
theorem run_at {A : Around} {pins : List (Addr × Obj)} {σ : St} {H : Hp} {s : Shared} {Q : VK} {us : List Value} {vs : List V} (F : FnOk X.prog X.w X.K X.mg X.base CX k f fd ps sp) (hr : Room k A) (hA : A.frames = X.A.frames) (hb : Binds X.K fd ps []) (hx : Passes CX X E0)
    (I : Inv X pins σ H s) (r : Vals vs us) (h : sp vs H Q E0) : wpAny (model X.prog X.w) A (call (.ref f) us) (EP X pins σ Q) X.xe s := by
  have hl : us.length = ps.length := by rw [← r.length]; exact F.len _ _ _ _ h
  have e0 : Env0 X.prog X.w X.K X.mg X.base A X.stack s H := by
    have e := I.env0
    exact ⟨by rw [hA]; exact e.frames, e.mod, e.bs, e.bsz, e.funs, e.frf, e.hok, e.bare⟩
  refine wpAny_call (codeAny_mono (F.run A X.stack s H ⟨us, []⟩ us vs Q E0 hr e0 (by
    have := hb s us I.kIn (by simpa using hl)
    simpa using this) r h) fun r s' hq => ?_)
  cases r with
  | error e => exact hx pins σ H s e s' I hq
  | ok fl =>
    cases fl with
    | ret u => exact I.after hq
    | next => exact False.elim hq
    | brk => exact False.elim hq
    | cont => exact False.elim hq
/-- x == y, x an instance of the class at C, by its own ==; y anything whose type is known -/
def rEqO (K : PySem.W.Frag) (C : Addr) (sp : Sp) : R2 := fun x y H Q => ∃ a dx fs t, x = .ref a ∧ H a = some (.ins C dx fs) ∧ TyX K H y t ∧ PySem.W.notFirst K C t = true ∧ sp [x, y] H (fun v H' => ∃ b, v = .bl b ∧ Q (.bl b) H') E0
def rNeO (K : PySem.W.Frag) (C : Addr) (sp : Sp) : R2 := fun x y H Q => ∃ a dx fs t, x = .ref a ∧ H a = some (.ins C dx fs) ∧ TyX K H y t ∧ PySem.W.notFirst K C t = true ∧ sp [x, y] H (fun v H' => ∃ b, v = .bl b ∧ Q (.bl (!b)) H') E0
structure EqM (K : PySem.W.Frag) (C f : Addr) : Prop where
  eq : PySem.W.findIn K (.ref C) "__eq__" = some (some (.ref f))
  fn : PySem.W.isFn K (.ref f) = true
  ne : PySem.W.findIn K (.ref C) "__ne__" = some (some (.builtin "object.__ne__"))
  ob : PySem.W.mroIn K C (.type "object") = some true
theorem op_eqO (F : FnOk X.prog X.w X.K X.mg X.base CX k f fd ps sp) (M : EqM X.K C f) (hr : Room k X.A) (hb : Binds X.K fd ps []) (hx : Passes CX X E0) : OpR X (compareOp .Eq) (rEqO X.K C sp) := by
  intro pins s σ H x y v u Q I rx ry hq
  obtain ⟨a, dx, fs, t, rfl, ha, ty, hn, q⟩ := hq
  cases (show v = Value.ref a from rx)
  obtain ⟨P, Z, p, _⟩ := kit_of I ry ty
  obtain ⟨mA, J, _⟩ := ins_get I.hok ha
  obtain ⟨od, J, _⟩ := J.look
  obtain ⟨m, hF⟩ := I.fr
  show wpAny (model X.prog X.w) X.A (richCompare .Eq (.ref a) u) (EP X pins σ Q) X.xe s
  refine PySem.W.cmp_K (op := .Eq) (tb := t) hr.units0 hF I.ok.mod.kin J (Z.ty _ _ I.kIn p) hn M.eq M.fn ?_
  refine wpAny_mono (run_at (vs := [.ref a, y]) F hr rfl hb hx I (.cons rfl (.cons ry .nil)) q) (fun v' s' z => ?_) fun _ _ e => e
  obtain ⟨w', H', I', rv, b, rfl, q'⟩ := z
  cases rv
  exact ⟨.bl b, H', I', rfl, q'⟩
theorem op_neO (F : FnOk X.prog X.w X.K X.mg X.base CX k f fd ps sp) (M : EqM X.K C f) (hr : Room (k + 1) X.A) (hb : Binds X.K fd ps []) (hx : Passes CX X E0) : OpR X (compareOp .NotEq) (rNeO X.K C sp) := by
  intro pins s σ H x y v u Q I rx ry hq
  obtain ⟨a, dx, fs, t, rfl, ha, ty, hn, q⟩ := hq
  cases (show v = Value.ref a from rx)
  obtain ⟨P, Z, p, _⟩ := kit_of I ry ty
  obtain ⟨mA, J, _⟩ := ins_get I.hok ha
  obtain ⟨od, J, _⟩ := J.look
  obtain ⟨m, hF⟩ := I.fr
  show wpAny (model X.prog X.w) X.A (richCompare .NotEq (.ref a) u) (EP X pins σ Q) X.xe s
  refine PySem.W.cmpNe_K (tb := t) (by have := hr.units; omega) hF I.ok.mod.kin J (Z.ty _ _ I.kIn p) hn M.ne M.ob M.eq M.fn ?_
  refine wpAny_mono (run_at (vs := [.ref a, y]) F hr.in1 rfl hb hx I (.cons rfl (.cons ry .nil)) q) (fun v' s' z => ?_) fun _ _ e => e
  obtain ⟨w', H', I', rv, b, rfl, q'⟩ := z
  cases rv
  exact ⟨b, rfl, .bl (!b), H', I', rfl, q'⟩
/-- len(o), o an instance of the class at C with an own __len__ -/
def rLenO (C : Addr) (sp : Sp) : List V → Hp → VK → Prop := fun xs H Q => ∃ a dx fs, xs = [.ref a] ∧ H a = some (.ins C dx fs) ∧ sp [.ref a] H (fun v H' => ∃ n : Int, v = .int n ∧ (0 ≤ n ∧ n < 2 ^ 63) ∧ Q (.int n) H') E0
theorem call_lenO (F : FnOk X.prog X.w X.K X.mg X.base CX k f fd ps sp) (hs : PySem.W.findIn X.K (.ref C) "__len__" = some (some (.ref f))) (hf : PySem.W.isFn X.K (.ref f) = true) (hr : Room (k + 1) X.A) (hb : Binds X.K fd ps []) (hx : Passes CX X E0) :
    CallR X (.builtin "len") (rLenO C sp) := by
  intro pins s σ H xs us Q I r h
  obtain ⟨a, dx, fs, rfl, ha, q⟩ := h
  cases r with
  | cons rx rr =>
    rename_i u us'
    cases rr
    cases (show u = Value.ref a from rx)
    obtain ⟨mA, J, _⟩ := ins_get I.hok ha
    obtain ⟨od, J, _⟩ := J.look
    obtain ⟨m, hF⟩ := I.fr
    refine PySem.W.len_K hF I.ok.mod.kin J hs hf ?_
    refine wpAny_mono (run_at (vs := [.ref a]) F hr.in1 rfl hb hx I (.cons rfl .nil) q) (fun v' s' z => ?_) fun _ _ e => e
    obtain ⟨w', H', I', rv, n, rfl, hn, q'⟩ := z
    obtain ⟨t, rfl⟩ := (show ∃ t, v' = Value.int n t from rv)
    exact ⟨hn, .int n, H', I'.tok _, ⟨_, rfl⟩, q'⟩
end
end L2

set_option Elab.async false
set_option maxRecDepth 100000
set_option maxHeartbeats 4000000
namespace PySem.W
open PySem PySem.Spec PySem.Calls PyProof.Rows
section
variable {K : Frag} {C : Addr}
theorem findObj_dat {od : Option Obj} {name : Str} {a g : Value} (hc : (clsIn K C).isSome = true) (ha : findIn K (.ref C) name = some (some a)) (hg : specialIn K a "__get__" = some (some g)) (ht : takesIn K a = some true) :
    findObj K C od name = some (.bind g a) := by
  obtain ⟨cd, hc⟩ := Option.isSome_iff_exists.mp hc
  simp [findObj, hc, ha, hg, ht]
variable {prog : Program} {w : World} {A : Around} {E : Value → Shared → Prop} {s : Shared} {x D : Addr} {ox : Obj}
theorem kin_classD {od : Option Obj} {Q : Option Value → Shared → Prop} (T : L2.ExcC K D)
    (X : K.In s.heap) (I : InstAt s.heap x ox D od) (h : Q (some (.ref D)) { s with toks := s.toks + 1 }) : wpAny (model prog w) A (getAttr? (.ref x) "__class__") Q E s := by
  have hf : findObj K D od "__class__" = some (.bind (.builtin "getset_descriptor.__get__") (.builtin "object.__class__")) :=
    findObj_dat (by obtain ⟨cd, hc, _⟩ := any_some T.hd; rw [hc]; rfl) T.ha T.hn T.ht
  obtain ⟨hp, g, d, t, os⟩ := s
  have L0 := I.type (M := model prog w)
  have L1 := looks_findIn (M := model prog w) X T.hg
  have L2 := looks_findIn (M := model prog w) X T.hk
  have L3 := looks_find (M := model prog w) X I hf
  have sub : Looks (model prog w) hp (isInstance (.ref x) (.type "BaseException")) true := L0.andThen (looks_subIn X T.hs)
  have hx0 : (false && onTheHeap (Value.builtin "BaseException.__getattribute__")) = false := rfl
  have hx2 : (Value.builtin "BaseException.__getattribute__" == Value.builtin "object.__getattribute__") = false := by decide +kernel
  have hx1 : (onTheHeap (Value.ref D) && Value.builtin "BaseException.__getattribute__" == Value.builtin "object.__getattribute__") = false := by rw [hx2]; rfl
  unfold getAttr? getAttrBy? getAttrBy
  refine wpAny_bind (wpAny_mkText (wpAny_bind (wpAny_attempt (wpAny_holding (wpAny_bind (L0.at (wpAny_bind (L1.at ?_))))))))
  show wpAny _ _ (if (onTheHeap (Value.ref D) && Value.builtin "BaseException.__getattribute__" == Value.builtin "object.__getattribute__") = true then _ else _) _ _ _
  rw [hx1, if_neg Bool.false_ne_true]
  unfold getAttrByItsOwn hookBefore
  refine wpAny_bind ?_
  rw [if_pos (show onTheHeap (Value.ref D) = true from rfl)]
  refine L2.at ?_
  refine wpAny_bind (wpAny_attempt (wpAny_holding ?_))
  unfold callGetattribute
  rw [hx0, if_neg Bool.false_ne_true]
  unfold boundAndCalled
  rw [PySem.F.excAttr_ValueError.ga.bind (.ref x)]
  refine wpAny_bind (wpAny_pure ?_)
  show wpAny _ _ (call (.builtin "BaseException.__getattribute__") [.ref x, .str "__class__" t]) _ _ _
  refine wpAny_call (codeAny_call_builtin PySem.F.excAttr_ValueError.ga.plain PySem.F.entry_bexc_ga ?_)
  refine @check_slot (model prog w) _ _ ⟨hp, g, d, t + 1, os⟩ "BaseException.__getattribute__" "BaseException" "__getattribute__" (.ref x) [.str "__class__" t] [] _ (by decide +kernel) (by decide +kernel) sub (PySem.F.args_bexc_ga (.ref x) (.str "__class__" t)) ?_
  unfold Builtin.«object.__getattribute__»
  refine wpAny_bind (wpAny_of_eq (a := ((Value.ref x : Value), [Value.str "__class__" t])) (by first | rfl | (simp only [slotArgs]; rfl)) ?_)
  refine wpAny_bind (wpAny_pure (wpAny_bind (L0.at (wpAny_bind (L3.at ?_)))))
  show wpAny _ _ (holding [Value.builtin "object.__class__"] (call (.builtin "getset_descriptor.__get__") [.builtin "object.__class__", .ref x, .ref D]) >>= ret) _ _ _
  refine wpAny_bind (wpAny_holding (wpAny_call (class_get (s := ⟨hp, g, d, t + 1, os⟩) (ox := ox) (od := od) X I T.hm ?_)))
  refine wpAny_pure ?_
  show wpAny _ _ (handedOut (.ref D)) _ _ _
  rw [handedOut_of (v := .ref D) rfl]
  first
    | exact wpAny_pure (wpAny_pure h)
    | exact wpAny_pure h
    | exact wpAny_pure (wpAny_bind (wpAny_pure (wpAny_pure h)))
theorem kitx_excD (T : L2.ExcC K D) : KitX K (.ref x) (.ref D) (fun h => ∃ od, InstAt h x ox D od) where
  ty := fun _ _ _ I => by
    obtain ⟨_, I⟩ := I
    exact I.type
  it := fun M h X _ => by
    obtain ⟨cdD, hcD, _⟩ := any_some T.hd
    unfold clsIn at hcD
    split at hcD
    · rename_i c' d' cd' sl' ho
      intro A' Q' E' s' k q
      unfold isType loadHead
      exact wpAny_bind (wpAny_loadPart (k _ _ (X _ _ ho)) (wpAny_pure q))
    · cases hcD
  ne := fun h tp dd its n sl X htp => by
    obtain ⟨cdD, hcD, _⟩ := any_some T.hd
    refine Bool.eq_false_iff.mpr fun q => ?_
    have e : D = tp := Value.ref.inj (beq_iff_eq.mp q)
    subst e
    unfold clsIn at hcD
    split at hcD
    · rename_i c' d' cd' sl' ho
      have z := (X _ _ ho).symm.trans htp
      cases z
    · cases hcD
  ca := fun X I k => by
    obtain ⟨_, I⟩ := I
    exact kin_classD T X I k
end
end PySem.W
namespace L2
open PySem PySem.Spec PyProof.Rows
section
variable {X : Cx}
/-- isinstance(e, c), e the exception that the suite holds, with a dict or without -/
theorem call_isED {a D : Addr} {d : Option Addr} {oe : Obj} {pn : List (Addr × Obj)} (C : ExcC X.K D) (hz : Zc (.ref D) d oe) (hf : ∃ vs, oe.data = .fields vs) (hd : ∀ (pins : List (Addr × Obj)) (σ : St) (H : Hp) (s : Shared), Inv (X.suite a ((a, oe) :: pn)) pins σ H s → ∀ dd, d = some dd → ∃ od, s.heap.get? dd = some od) :
    CallR (X.suite a ((a, oe) :: pn)) (.builtin "isinstance") (rIsE X.K D a) := by
  intro pins s σ H xs us Q I r h
  obtain ⟨c, cv, b, rfl, hcv, e, q⟩ := h
  cases r with
  | cons rx rr =>
    cases rr with
    | cons rt rr =>
      cases rr
      cases rx
      have ec := hcv _ rt
      subst ec
      obtain ⟨hget, _⟩ := I.pin (a, oe) (List.mem_append.mpr (.inl List.mem_cons_self))
      obtain ⟨vs, hv⟩ := hf
      have J : ∃ od, PySem.W.InstAt s.heap a oe D od := by
        have hd' := hd pins σ H s I
        obtain ⟨oc, od, oda, osl⟩ := oe
        obtain ⟨h1, h2⟩ := hz
        dsimp only at h1 h2 hv
        subst h1 h2 hv
        cases od with
        | none => exact ⟨none, hget, rfl, rfl, trivial⟩
        | some dd =>
          obtain ⟨o, ho⟩ := hd' dd rfl
          exact ⟨some o, hget, rfl, rfl, ho⟩
      exact PySem.W.kia_one (PySem.W.kitx_excD C) I.kIn J e (fun z => nomatch z) fun tk => ⟨.bl b, H, I.kept (t' := tk) fun _ _ z => z, rfl, q⟩
/-- the same where the dict is tracked: the reading asks it -/
def rIsED (K : PySem.W.Frag) (D a : Addr) (cls : Value) (d : Option Addr) : List V → Hp → VK → Prop := fun xs H Q => cls = .ref D ∧ (∀ dd, d = some dd → ∃ fs, H dd = some (.xd fs)) ∧ ∃ (c : V) (cv : Value) (b : Bool), xs = [.ref a, c] ∧ (∀ u, RelV c u → u = cv) ∧ PySem.W.kitOne K (.ref D) cv = some b ∧ Q (.bl b) H
theorem call_isEX {a D : Addr} {cls : Value} {d : Option Addr} {oe : Obj} {pn : List (Addr × Obj)} (C : ExcC X.K D) (hz : Zc cls d oe) (hf : ∃ vs, oe.data = .fields vs) : CallR (X.suite a ((a, oe) :: pn)) (.builtin "isinstance") (rIsED X.K D a cls d) := by
  intro pins s σ H xs us Q I r h
  obtain ⟨ec0, hdd, c, cv, b, rfl, hcv, e, q⟩ := h
  subst ec0
  cases r with
  | cons rx rr =>
    cases rr with
    | cons rt rr =>
      cases rr
      cases rx
      have ec := hcv _ rt
      subst ec
      obtain ⟨hget, _⟩ := I.pin (a, oe) (List.mem_append.mpr (.inl List.mem_cons_self))
      obtain ⟨vs, hv⟩ := hf
      have J : ∃ od, PySem.W.InstAt s.heap a oe D od := by
        obtain ⟨oc, od, oda, osl⟩ := oe
        obtain ⟨h1, h2⟩ := hz
        dsimp only at h1 h2 hv
        subst h1 h2 hv
        cases od with
        | none => exact ⟨none, hget, rfl, rfl, trivial⟩
        | some dd =>
          obtain ⟨fs, hfs⟩ := hdd dd rfl
          obtain ⟨mA, hns, _⟩ := (show ObjOk X.prog X.w H s.heap dd (.xd fs) from I.hok dd _ hfs)
          obtain ⟨od, ho, _⟩ := lookIn_ns hns
          exact ⟨some od, hget, rfl, rfl, ho⟩
      exact PySem.W.kia_one (PySem.W.kitx_excD C) I.kIn J e (fun z => nomatch z) fun tk => ⟨.bl b, H, I.kept (t' := tk) fun _ _ z => z, rfl, q⟩
end
section
variable {X : Cx} {CX : CXT} {k : Nat} {f C : Addr} {fd : FuncData} {ps : List Str} {sp : Sp} {dvs : List V} {ds : List Value} {E : St → XK} {x m : Str} {p pos apos : Pos} {e o : Expr} {es : List Expr} {ta : TE} {t : TA}
/-- C(e, ..) where what is raised is wished for at the slots as they stand -/
def tMakeS (C : Addr) (sp : Sp) (dvs : List V) (E : St → XK) (t : TA) : TE := fun σ H Q => t σ H fun vs H1 => ∀ x dx, H1 x = none → H1 dx = none → dx ≠ x →
  sp (.ref x :: (vs ++ dvs)) (upd (upd H1 dx (.own x)) x (.ins C dx [])) (fun v H2 => v = .non ∧ Q (.ref x) H2) (fun cls d H2 => E σ cls d H2)
theorem run_makeS {pins : List (Addr × Obj)} {σ : St} {H : Hp} {s : Shared} {Q : VK} {us : List Value} {vs : List V} (M : Mk X.K C f) (F : FnOk X.prog X.w X.K X.mg X.base CX k f fd ps sp) (hr : Room (k + 1) X.A) (hb : Binds X.K fd ps ds) (hd : Vals dvs ds)
    (hx : PassesAt CX X σ (E σ)) (I : Inv X pins σ H s) (r : Vals vs us)
    (h : ∀ x dx, H x = none → H dx = none → dx ≠ x → sp (.ref x :: (vs ++ dvs)) (upd (upd H dx (.own x)) x (.ins C dx [])) (fun v H2 => v = .non ∧ Q (.ref x) H2) (E σ)) :
    wpAny (model X.prog X.w) X.A (call (.ref C) us) (EP X pins σ Q) X.xe s := by
  have hq := h (s.heap.objs.size + 1) s.heap.objs.size (I.hok.fresh (Nat.le_succ _)) (I.hok.fresh (Nat.le_refl _)) (Nat.ne_of_lt (Nat.lt_succ_self _))
  have I2 := Inv.made (C := C) I
  have r2 : Vals (V.ref (s.heap.objs.size + 1) :: (vs ++ dvs)) (Value.ref (s.heap.objs.size + 1) :: (us ++ ds)) := .cons rfl (r.append hd)
  have hl : (Value.ref (s.heap.objs.size + 1) :: us ++ ds).length = ps.length := by
    have e := r2.length
    rw [F.len _ _ _ _ hq] at e
    exact e.symm
  refine wpAny_call (make_map (f := f) I.kIn M.makes M.init (beq_iff_eq.mp M.fn) (codeAny_mono (F.run _ X.stack _ _ ⟨Value.ref (s.heap.objs.size + 1) :: us, []⟩ (Value.ref (s.heap.objs.size + 1) :: (us ++ ds)) _ _ (E σ) (hr.make C us [])
    (I2.env0.make C us []) (hb _ (Value.ref (s.heap.objs.size + 1) :: us) I2.kIn hl) r2 hq) fun r s' hq' => ?_))
  cases r with
  | error e => exact hx pins _ _ e s' I2 hq'
  | ok fl =>
    cases fl with
    | ret u =>
      obtain ⟨v, H', I3, rv, ev, q3⟩ := I2.after hq'
      subst ev
      exact ⟨rv, ⟨V.ref (s.heap.objs.size + 1), H', I3, rfl, q3⟩⟩
    | next => exact False.elim hq'
    | brk => exact False.elim hq'
    | cont => exact False.elim hq'
theorem pe_makeS (M : Mk X.K C f) (F : FnOk X.prog X.w X.K X.mg X.base CX k f fd ps sp) (hr : Room (k + 1) X.A) (hg : Gl X x) (hm : X.mg x = some (.ref C)) (hb : Binds X.K fd ps ds) (hd : Vals dvs ds) (hx : ∀ σ, PassesAt CX X σ (E σ))
    (ha : PA X (e :: es) t) (hdb : (x == ("__debug__" : Str)) = false := by decide) (he : starEach (e :: es) X.env = (false, eval e X.env) :: starEach es X.env := by rfl) (hpl : (backTo pos (starEach es X.env)).any (·.1) = false := by rfl) :
    PE X (.Call (.Name x p) (e :: es) [] pos) (tMakeS C sp dvs E t) := by
  refine ⟨fun pins s σ H Q I h => ?_⟩
  refine wpAny_Call_Name_kw (ld_glob I hg hm ?_ hdb)
  refine PySem.W.callWith_K (h₀ := X.base) I.ok.mod.kin M.kp (thn (ha.run pos pins s σ H _ I h) fun us s1 ⟨vs, H1, I1, r, q⟩ => ⟨I1.kIn, ?_⟩) he hpl
  exact run_makeS M F hr hb hd (hx σ) I1 r q
/-- o.m(e, ..) | o.m() likewise -/
def tMethSD (C : Addr) (m : Str) (sp : Sp) (dvs : List V) (E : St → XK) (ta : TE) (t : TA) : TE := fun σ H Q => ta σ H fun x H1 => ∃ a dx fs, x = .ref a ∧ H1 a = some (.ins C dx fs) ∧ fs.lookup m = none ∧
  t σ H1 fun vs H2 => sp (x :: (vs ++ dvs)) H2 Q (E σ)
theorem pe_methSD {pl : Sem Bool} (he : PE X o ta) (c : Cls X.K C) (hm : Meth X.K C m f) (F : FnOk X.prog X.w X.K X.mg X.base CX k f fd ps sp) (hr : Room k X.A) (hb : Binds X.K fd ps ds) (hd : Vals dvs ds) (hx : ∀ σ, PassesAt CX X σ (E σ)) (ha : PA X (e :: es) t)
    (hst : starEach (e :: es) X.env = (false, eval e X.env) :: starEach es X.env := by rfl) (hpl : (backTo pos (starEach es X.env)).any (·.1) = false := by rfl)
    (ht : eval (.Call (.Attribute o m apos) (e :: es) [] pos) X.env = (do
      let ov ← eval o X.env
      standAt apos.atName
      let (f, first) ← holding [ov] (getMethod ov m pl)
      callWith pos f first (backTo pos (starEach (e :: es) X.env)) (backToKw pos (keywordEach [] X.env))) := by rfl) :
    PE X (.Call (.Attribute o m apos) (e :: es) [] pos) (tMethSD C m sp dvs E ta t) := by
  refine ⟨fun pins s σ H Q I h => ?_⟩
  refine PySem.W.methodCall_KW (pl := pl) (thn (he.run pins s σ H _ I h) fun u s1 ⟨x, H1, I1, rx, a, dx, fs, ex, ea, l, q⟩ => ?_) ht
  subst ex
  obtain rfl : u = Value.ref a := rx
  refine getmeth_ok I1 ea c hm l ?_
  refine PySem.W.callWith_K (first := [.ref a]) (h₀ := X.base) I.ok.mod.kin hm.kp (thn (ha.run pos pins s1 σ H1 _ I1 q) fun us s2 ⟨vs, H2, I2, r, q2⟩ => ⟨I2.kIn, ?_⟩) hst hpl
  exact run_fnSD (us := .ref a :: us) (vs := .ref a :: vs) F hr hb hd (hx σ) I2 (.cons rfl r) q2
theorem pe_methSD0 {pl : Sem Bool} (he : PE X o ta) (c : Cls X.K C) (hm : Meth X.K C m f) (F : FnOk X.prog X.w X.K X.mg X.base CX k f fd ps sp) (hr : Room k X.A) (hb : Binds X.K fd ps ds) (hd : Vals dvs ds) (hx : ∀ σ, PassesAt CX X σ (E σ))
    (ht : eval (.Call (.Attribute o m apos) [] [] pos) X.env = (do
      let ov ← eval o X.env
      standAt apos.atName
      let (f, first) ← holding [ov] (getMethod ov m pl)
      callWith pos f first (backTo pos (starEach [] X.env)) (backToKw pos (keywordEach [] X.env))) := by rfl) :
    PE X (.Call (.Attribute o m apos) [] [] pos) (tMethSD C m sp dvs E ta tNil) := by
  refine ⟨fun pins s σ H Q I h => ?_⟩
  refine PySem.W.methodCall_KW (pl := pl) (thn (he.run pins s σ H _ I h) fun u s1 ⟨x, H1, I1, rx, a, dx, fs, ex, ea, l, q⟩ => ?_) ht
  subst ex
  obtain rfl : u = Value.ref a := rx
  refine getmeth_ok I1 ea c hm l ?_
  exact PySem.W.callWith_K0 (first := [.ref a]) I1.kIn hm.kp (run_fnSD (us := [.ref a]) (vs := [.ref a]) F hr hb hd (hx σ) I1 (.cons rfl .nil) q)
end

/-! ### own errors with one field -/
/-- what __init__ of such an error does: self.f = v -/
def spXI (C : Addr) (f : Str) : Sp := fun vs H Q _ => ∃ (a : Addr) (y : V), vs = [.ref a, y] ∧ H a = some (exo a C none) ∧ ∀ dx, H dx = none → dx ≠ a → Q .non (upd (upd H dx (exd dx [(f, y)])) a (exo a C (some dx)))
/-- all that is asked of the class x of errors at C, whose field is f -/
structure XCls (P : Program) (w : World) (K : PySem.W.Frag) (mg : Str → Option Value) (base : Heap) (x f : Str) (C : Addr) : Prop where
  ox : OexC K C
  gC : mg x = some (.ref C)
  noA : PySem.W.findIn K (.ref C) f = some none
  ec : ExcC K C
  ini : ∃ (fI : Addr) (fd : FuncData), PySem.W.findIn K (.ref C) "__init__" = some (some (.ref fI)) ∧ PySem.W.typeIn K (.ref fI) = some (.type "function") ∧ FnOk P w K mg base CX0 1 fI fd ["self", f] (spXI C f) ∧ Binds K fd ["self", f] []
theorem XCls.xf {P : Program} {w : World} {K : PySem.W.Frag} {mg : Str → Option Value} {base : Heap} {x f : Str} {C : Addr} (T : XCls P w K mg base x f C) : XfC K C := ⟨T.ec.hg, T.ec.hk, T.ec.hs, T.ec.hd⟩
section
variable {X : Cx} {C : Addr} {x f : Str} {e : Expr} {te : TE} {p pos pos2 : Pos}
theorem pmk_X (T : XCls X.prog X.w X.K X.mg X.base x f C) (hr : Room 2 X.A) (he : PE X e te) (hg : Gl X x) (hdb : (x == ("__debug__" : Str)) = false := by decide)
    (hs : starEach [e] X.env = (false, eval e X.env) :: starEach [] X.env := by rfl) (hpl : (backTo pos (starEach [] X.env)).any (·.1) = false := by rfl) :
    PMk X (.Call (.Name x p) [e] [] pos) (tMkO C (spXI C f) [] (tCons te tNil)) := by
  obtain ⟨fI, fd, i1, i2, F, b⟩ := T.ini
  exact pmk_oex (dvs := []) (ds := []) T.ox i1 i2 F hr b .nil pass0 hg T.gC (pa_cons he pa_nil hs) hdb hs hpl
/-- what is left to be shown behind the argument y -/
theorem mkX_fin {H1 : Hp} {y : V} {Q : XK} (h : ∀ d, H1 d = none → Q (.ref C) (some d) (upd H1 d (.xd [(f, y)]))) :
    [y].length ≤ 1000 ∧ ∀ a, H1 a = none → spXI C f (.ref a :: ([y] ++ [])) (upd H1 a (exo a C none))
      (fun v H2 => v = .non ∧ ∃ (d : Addr) (fs : List (Str × V)), H2 a = some (exo a C (some d)) ∧ H2 d = some (exd d fs) ∧ H1 d = none ∧ Q (.ref C) (some d) (upd (del H2 a) d (.xd fs))) (fun _ _ _ => False) := by
  refine ⟨by show 1 ≤ 1000; decide, fun a ha => ⟨a, y, rfl, upd_same, fun dx hdx hne => ⟨rfl, dx, [(f, y)], upd_same, ?_, ?_, ?_⟩⟩⟩
  · rw [upd_ne hne, upd_same]
  · rw [upd_ne hne] at hdx
    exact hdx
  · have hdx' : H1 dx = none := by
      rw [upd_ne hne] at hdx
      exact hdx
    have e : upd (del (upd (upd (upd H1 a (exo a C none)) dx (exd dx [(f, y)])) a (exo a C (some dx))) a) dx (.xd [(f, y)]) = upd H1 dx (.xd [(f, y)]) := by
      funext b
      by_cases hb : b = dx
      · rw [hb, upd_same, upd_same]
      · rw [upd_ne hb, upd_ne hb]
        by_cases hba : b = a
        · rw [hba, del_same, ha]
        · rw [del_ne hba, upd_ne hba, upd_ne hb, upd_ne hba]
    rw [e]
    exact h dx hdx'
end
end L2

set_option Elab.async false
set_option maxRecDepth 100000
set_option maxHeartbeats 4000000
namespace L2
open PySem PySem.Spec PyProof.Rows
section
variable (P : Program) (w : World) (K : PySem.W.Frag) (mg : Str → Option Value) (base : Heap)
/-- a def of the top, as the text has it -/
structure DefAt (x : Str) (st : Stmt) (ps : List Str) : Prop where
  ex : ∃ (f : Addr) (fd : FuncData), Fun K x x st f fd ∧ mg x = some (.ref f) ∧ Binds K fd ps []
/-- a def of the top that keeps its promise -/
structure Own (CX : CXT) (x : Str) (k : Nat) (ps : List Str) (sp : Sp) : Prop where
  ex : ∃ (f : Addr) (fd : FuncData), FnOk P w K mg base CX k f fd ps sp ∧ mg x = some (.ref f) ∧ PySem.W.keepIn K (.ref f) = true ∧ Binds K fd ps []
/-- a method of the class at C, as the text has it; one that keeps its promise -/
structure MethAt (C : Addr) (m qual : Str) (st : Stmt) (ps : List Str) : Prop where
  ex : ∃ (f : Addr) (fd : FuncData), Fun K m qual st f fd ∧ PySem.W.findIn K (.ref C) m = some (some (.ref f)) ∧ PySem.W.isFn K (.ref f) = true ∧ Binds K fd ps []
structure OwnM (CX : CXT) (C : Addr) (m : Str) (k : Nat) (ps : List Str) (sp : Sp) : Prop where
  ex : ∃ (f : Addr) (fd : FuncData), FnOk P w K mg base CX k f fd ps sp ∧ Meth K C m f ∧ PySem.W.isFn K (.ref f) = true ∧ Binds K fd ps []
/-- a class of the top with an own __init__ that keeps its promise -/
structure OwnC (CX : CXT) (x : Str) (C : Addr) (k : Nat) (ps : List Str) (sp : Sp) : Prop where
  ex : ∃ (f : Addr) (fd : FuncData), FnOk P w K mg base CX k f fd ps sp ∧ Mk K C f ∧ mg x = some (.ref C) ∧ Binds K fd ps []
end
section
variable {P : Program} {w : World} {K : PySem.W.Frag} {mg : Str → Option Value} {base : Heap} {CX : CXT} {x m qual : Str} {k : Nat} {ps : List Str} {sp : Sp} {st : Stmt} {C : Addr}
theorem DefAt.own (D : DefAt K mg x st ps) (h : ∀ f fd, Fun K x x st f fd → FnOk P w K mg base CX k f fd ps sp) : Own P w K mg base CX x k ps sp := by
  obtain ⟨f, fd, F, hm, hb⟩ := D.ex
  exact ⟨f, fd, h f fd F, hm, F.kp, hb⟩
theorem MethAt.own (D : MethAt K C m qual st ps) (h : ∀ f fd, Fun K m qual st f fd → FnOk P w K mg base CX k f fd ps sp) : OwnM P w K mg base CX C m k ps sp := by
  obtain ⟨f, fd, F, hm, hi, hb⟩ := D.ex
  exact ⟨f, fd, h f fd F, ⟨hm, hi, F.kp⟩, hi, hb⟩
theorem MethAt.cls (D : MethAt K C "__init__" qual st ps) (h : ∀ f fd, Fun K "__init__" qual st f fd → FnOk P w K mg base CX k f fd ps sp) (m1 : PySem.W.makesIn K C = true) (m2 : PySem.W.keepIn K (.ref C) = true) (m3 : mg x = some (.ref C)) :
    OwnC P w K mg base CX x C k ps sp := by
  obtain ⟨f, fd, F, hm, hi, hb⟩ := D.ex
  exact ⟨f, fd, h f fd F, ⟨m1, hm, hi, m2⟩, m3, hb⟩
end
section
variable {X : Cx} {CX : CXT} {x m : Str} {k : Nat} {ps : List Str} {sp : Sp} {e o : Expr} {es : List Expr} {t : TA} {ta : TE} {p pos apos : Pos} {C : Addr}
theorem pe_own (O : Own X.prog X.w X.K X.mg X.base CX x k ps sp) (hr : Room k X.A) (hx : Passes CX X E0) (ha : PA X (e :: es) t) (hg : Gl X x := by rfl) (hdb : (x == ("__debug__" : Str)) = false := by decide)
    (he : starEach (e :: es) X.env = (false, eval e X.env) :: starEach es X.env := by rfl) (hpl : (backTo pos (starEach es X.env)).any (·.1) = false := by rfl) : PE X (.Call (.Name x p) (e :: es) [] pos) (tCall sp [] E0 t) := by
  obtain ⟨f, fd, F, hm, hk, hb⟩ := O.ex
  exact pe_call F hr hg hm hk hb .nil hx ha hdb he hpl
theorem pe_own0 (O : Own X.prog X.w X.K X.mg X.base CX x k ps sp) (hr : Room k X.A) (hx : Passes CX X E0) (hg : Gl X x := by rfl) (hdb : (x == ("__debug__" : Str)) = false := by decide) : PE X (.Call (.Name x p) [] [] pos) (tCall sp [] E0 tNil) := by
  obtain ⟨f, fd, F, hm, hk, hb⟩ := O.ex
  exact pe_call0 F hr hg hm hk hb .nil hx hdb
/-- one that may raise; W is wished for what it raises -/
theorem pe_ownS {W : WX} (O : Own X.prog X.w X.K X.mg X.base (L2.CX X.prog X.w) x k ps sp) (hr : Room k X.A) (tk : Takes X W) (ha : PA X (e :: es) t) (hg : Gl X x := by rfl) (hdb : (x == ("__debug__" : Str)) = false := by decide)
    (he : starEach (e :: es) X.env = (false, eval e X.env) :: starEach es X.env := by rfl) (hpl : (backTo pos (starEach es X.env)).any (·.1) = false := by rfl) : PE X (.Call (.Name x p) (e :: es) [] pos) (tCallS sp (WE W) t) := by
  obtain ⟨f, fd, F, hm, hk, hb⟩ := O.ex
  exact pe_callS F hr hg hm hk hb (fun σ => passAt tk σ) ha hdb he hpl
theorem pe_new (O : OwnC X.prog X.w X.K X.mg X.base CX x C k ps sp) (hr : Room (k + 1) X.A) (hx : Passes CX X E0) (ha : PA X (e :: es) t) (hg : Gl X x := by rfl) (hdb : (x == ("__debug__" : Str)) = false := by decide)
    (he : starEach (e :: es) X.env = (false, eval e X.env) :: starEach es X.env := by rfl) (hpl : (backTo pos (starEach es X.env)).any (·.1) = false := by rfl) : PE X (.Call (.Name x p) (e :: es) [] pos) (tMake C sp [] E0 t) := by
  obtain ⟨f, fd, F, M, hm, hb⟩ := O.ex
  exact pe_make M F hr hg hm hb .nil hx ha hdb he hpl
theorem pe_newS {W : WX} (O : OwnC X.prog X.w X.K X.mg X.base (L2.CX X.prog X.w) x C k ps sp) (hr : Room (k + 1) X.A) (tk : Takes X W) (ha : PA X (e :: es) t) (hg : Gl X x := by rfl) (hdb : (x == ("__debug__" : Str)) = false := by decide)
    (he : starEach (e :: es) X.env = (false, eval e X.env) :: starEach es X.env := by rfl) (hpl : (backTo pos (starEach es X.env)).any (·.1) = false := by rfl) : PE X (.Call (.Name x p) (e :: es) [] pos) (tMakeS C sp [] (WE W) t) := by
  obtain ⟨f, fd, F, M, hm, hb⟩ := O.ex
  exact pe_makeS M F hr hg hm hb .nil (fun σ => passAt tk σ) ha hdb he hpl
theorem pe_gint {n : Int} (hm : ∃ t, X.mg x = some (.int n t)) (hg : Gl X x := by rfl) (hd : (x == ("__debug__" : Str)) = false := by decide) : PE X (.Name x pos) (tC (.int n)) := by
  obtain ⟨t, hm⟩ := hm
  exact pe_glob hg hm ⟨t, rfl⟩ hd
theorem pe_gcls (hm : X.mg x = some (.ref C)) (hg : Gl X x := by rfl) (hd : (x == ("__debug__" : Str)) = false := by decide) : PE X (.Name x pos) (tC (.ref C)) := pe_glob hg hm rfl hd
end
/-! ### ==, != by own methods, len -/
section
variable {X : Cx} {CX : CXT} {k : Nat} {C : Addr} {ps : List Str} {sp : Sp}
structure NeM (K : PySem.W.Frag) (C : Addr) : Prop where
  ne : PySem.W.findIn K (.ref C) "__ne__" = some (some (.builtin "object.__ne__"))
  ob : PySem.W.mroIn K C (.type "object") = some true
theorem eqO (O : OwnM X.prog X.w X.K X.mg X.base CX C "__eq__" k ps sp) (N : NeM X.K C) (hr : Room k X.A) (hx : Passes CX X E0) : OpR X (compareOp .Eq) (rEqO X.K C sp) := by
  obtain ⟨f, fd, F, M, hi, hb⟩ := O.ex
  exact op_eqO F ⟨M.at_, hi, N.ne, N.ob⟩ hr hb hx
theorem neO (O : OwnM X.prog X.w X.K X.mg X.base CX C "__eq__" k ps sp) (N : NeM X.K C) (hr : Room (k + 1) X.A) (hx : Passes CX X E0) : OpR X (compareOp .NotEq) (rNeO X.K C sp) := by
  obtain ⟨f, fd, F, M, hi, hb⟩ := O.ex
  exact op_neO F ⟨M.at_, hi, N.ne, N.ob⟩ hr hb hx
theorem lenO (O : OwnM X.prog X.w X.K X.mg X.base CX C "__len__" k ps sp) (hr : Room (k + 1) X.A) (hx : Passes CX X E0) : CallR X (.builtin "len") (rLenO C sp) := by
  obtain ⟨f, fd, F, M, hi, hb⟩ := O.ex
  exact call_lenO F M.at_ hi hr hb hx
end
end L2

set_option Elab.async false
set_option maxRecDepth 100000
set_option maxHeartbeats 4000000
/-! kinds of plain values; their isinstance -/
namespace L2
open PySem PySem.Spec PyProof.Rows
inductive Knd | int | bool | none | str | list | tuple
  deriving DecidableEq
def Knd.name : Knd → String
  | .int => "int" | .bool => "bool" | .none => "NoneType" | .str => "str" | .list => "list" | .tuple => "tuple"
def KndOf (H : Hp) (v : V) : Knd → Prop
  | .int => ∃ n, v = .int n
  | .bool => ∃ b, v = .bl b
  | .none => v = .non
  | .str => ∃ s, v = .str s
  | .list => ∃ a xs, v = .ref a ∧ H a = some (.lst xs)
  | .tuple => ∃ a xs, v = .ref a ∧ H a = some (.tup xs)
def Knd.isInt : Knd → Bool | .int => true | .bool => true | _ => false
def Knd.isBool : Knd → Bool | .bool => true | _ => false
def Knd.isSeq : Knd → Bool | .list => true | .tuple => true | _ => false
def Knd.isTup : Knd → Bool | .tuple => true | _ => false
def Knd.isList : Knd → Bool | .list => true | _ => false
def Knd.isStr : Knd → Bool | .str => true | _ => false
section
variable {K : PySem.W.Frag} {H : Hp} {v : V} {k : Knd}
theorem knd_ty (h : KndOf H v k) : TyX K H v (.type k.name) := by
  cases k with
  | int => obtain ⟨n, rfl⟩ := h; exact .base (.int n)
  | bool => obtain ⟨n, rfl⟩ := h; exact .base (.bl n)
  | none => cases h; exact .base .non
  | str => obtain ⟨n, rfl⟩ := h; exact .base (.str n)
  | list => obtain ⟨a, xs, rfl, e⟩ := h; exact .base (.lst e)
  | tuple => obtain ⟨a, xs, rfl, e⟩ := h; exact .base (.tup e)
theorem knd_int : PySem.W.kitOne K (.type k.name) (.type "int") = some k.isInt := by cases k <;> exact kit_ty (by decide +kernel)
theorem knd_bool : PySem.W.kitOne K (.type k.name) (.type "bool") = some k.isBool := by cases k <;> exact kit_ty (by decide +kernel)
theorem knd_tup : PySem.W.kitOne K (.type k.name) (.type "tuple") = some k.isTup := by cases k <;> exact kit_ty (by decide +kernel)
theorem knd_list : PySem.W.kitOne K (.type k.name) (.type "list") = some k.isList := by cases k <;> exact kit_ty (by decide +kernel)
theorem knd_str : PySem.W.kitOne K (.type k.name) (.type "str") = some k.isStr := by cases k <;> exact kit_ty (by decide +kernel)
theorem knd_seq : PySem.W.kitAny K (.type k.name) [.type "list", .type "tuple"] = some k.isSeq := by
  cases k
  case list => exact kitAny_cons knd_list (by intro h; cases h) (fun _ => rfl)
  case tuple => exact kitAny_cons knd_list (fun _ => kitAny_cons knd_tup (by intro h; cases h) (fun _ => rfl)) (by intro h; cases h)
  all_goals exact kitAny_cons knd_list (fun _ => kitAny_cons knd_tup (fun _ => kitAny_nil) (by intro h; cases h)) (by intro h; cases h)
theorem KndOf.ext {H' : Hp} (h : KndOf H v k) (e : Ext H H') : KndOf H' v k := by
  cases k with
  | list => obtain ⟨a, xs, r, q⟩ := h; exact ⟨a, xs, r, e _ _ q⟩
  | tuple => obtain ⟨a, xs, r, q⟩ := h; exact ⟨a, xs, r, e _ _ q⟩
  | _ => exact h
theorem ki (n : Int) : KndOf H (.int n) .int := ⟨n, rfl⟩
theorem kb (n : Bool) : KndOf H (.bl n) .bool := ⟨n, rfl⟩
theorem kn : KndOf H .non .none := rfl
theorem ks (n : Str) : KndOf H (.str n) .str := ⟨n, rfl⟩
end
/-- a value that is an int from a to b -/
def betw (v : V) (a b : Int) : Bool := match v with
  | .int n => decide (a ≤ n) && decide (n ≤ b)
  | _ => false
theorem betw_int {n a b : Int} : betw (.int n) a b = (decide (a ≤ n) && decide (n ≤ b)) := rfl
theorem betw_not {H : Hp} {v : V} {k : Knd} {a b : Int} (h : KndOf H v k) (hk : (k.isInt && !k.isBool) = false) : betw v a b = false := by
  cases k with
  | int => cases hk
  | bool => obtain ⟨n, rfl⟩ := h; rfl
  | none => cases h; rfl
  | str => obtain ⟨n, rfl⟩ := h; rfl
  | list => obtain ⟨n, xs, rfl, _⟩ := h; rfl
  | tuple => obtain ⟨n, xs, rfl, _⟩ := h; rfl
theorem knd_yes {k : Knd} (h : (k.isInt && !k.isBool) = true) : k = .int := by cases k <;> first | rfl | cases h
/-! ### isinstance, read -/
section
variable {K : PySem.W.Frag} {σ : St} {H : Hp} {v : V} {k : Knd} {Q : VK} {te : TE}
theorem v_isI (hk : KndOf H v k) {b : Bool} {c : String} (e : PySem.W.kitOne K (.type k.name) (.type c) = some b) (q : Q (.bl b) H) : rIsi K [v, .ty c] H Q :=
  ⟨v, .ty c, .type k.name, .type c, b, rfl, .ty c, knd_ty hk, e, q⟩
end
end L2

set_option Elab.async false
set_option maxRecDepth 100000
set_option maxHeartbeats 4000000
namespace L2
open PySem PySem.Spec PyProof.Rows
section
variable {K : PySem.W.Frag} {C : Addr}
theorem no_ref (l : List String) : (l.map Value.type).contains (Value.ref C) = false := by
  induction l with
  | nil => rfl
  | cons a l ih =>
    rw [List.map_cons, List.contains_cons, ih]
    rfl
theorem sub_ty_ref {T : String} (h : (fastFind? T).isSome = true) : PySem.W.subIn K (.type T) (.ref C) = some false := by
  obtain ⟨r, hr⟩ := Option.isSome_iff_exists.mp h
  show (fastBuiltinMro T).map (·.contains (Value.ref C)) = some false
  unfold fastBuiltinMro
  rw [hr]
  show some ((r.mro.map Value.type).contains (Value.ref C)) = some false
  rw [no_ref]
theorem knd_find (k : Knd) : (fastFind? k.name).isSome = true := by cases k <;> decide +kernel
/-- all that is asked of an own plain class x at C -/
structure ClsX (K : PySem.W.Frag) (mg : Str → Option Value) (x : Str) (C : Addr) : Prop where
  gC : mg x = some (.ref C)
  cl : Cls K C
  ha : PySem.W.findIn K (.ref C) "__class__" = some (some (.builtin "object.__class__"))
  hn : PySem.W.specialIn K (.builtin "object.__class__") "__get__" = some (some (.builtin "getset_descriptor.__get__"))
  htk : PySem.W.takesIn K (.builtin "object.__class__") = some true
  hm : PySem.W.mroIn K C (.type "object") = some true
  ne : PySem.W.findIn K (.ref C) "__ne__" = some (some (.builtin "object.__ne__"))
  is : PySem.W.isClsIn K C = true
  ty : PySem.W.typeIn K (.ref C) = some (.type "type")
  tup : PySem.W.subIn K (.ref C) (.type "tuple") = some false
  lst : PySem.W.subIn K (.ref C) (.type "list") = some false
  int : PySem.W.subIn K (.ref C) (.type "int") = some false
  str : PySem.W.subIn K (.ref C) (.type "str") = some false
variable {mg : Str → Option Value} {x : Str}
theorem ClsX.neM (T : ClsX K mg x C) : NeM K C := ⟨T.ne, T.hm⟩
theorem ClsX.tyOf (T : ClsX K mg x C) {H : Hp} {a dx : Addr} {fs : List (Str × V)} (e : H a = some (.ins C dx fs)) : TyX K H (.ref a) (.ref C) := .base (.ins e T.cl T.ha T.hn T.htk T.hm)
theorem ClsX.me (_ : ClsX K mg x C) : PySem.W.kitOne K (.ref C) (.ref C) = some true := if_pos (beq_self_eq_true _)
theorem ClsX.nfMe (_ : ClsX K mg x C) : PySem.W.notFirst K C (.ref C) = true := by
  show (Value.ref C == Value.ref C || _) = true
  rw [beq_self_eq_true]
  rfl
theorem ClsX.kitB (T : ClsX K mg x C) {t : Value} {b : Bool} (h : PySem.W.subIn K t (.ref C) = some b) (hne : (t == .ref C) = false) : PySem.W.kitOne K t (.ref C) = some b := by
  have e : ((PySem.W.clsIn K C).isSome && PySem.W.typeIn K (.ref C) == some (.type "type")) = true := by
    have h1 : (PySem.W.clsIn K C).isSome = true := T.is
    rw [h1, T.ty]
    rfl
  show (if (t == Value.ref C) = true then some true else if ((PySem.W.clsIn K C).isSome && PySem.W.typeIn K (.ref C) == some (.type "type")) = true then PySem.W.subIn K t (.ref C) else none) = some b
  rw [hne, if_neg Bool.false_ne_true, if_pos e]
  exact h
theorem ClsX.kitK (T : ClsX K mg x C) (k : Knd) : PySem.W.kitOne K (.type k.name) (.ref C) = some false := T.kitB (sub_ty_ref (knd_find k)) rfl
theorem ClsX.nfK (_ : ClsX K mg x C) (k : Knd) : PySem.W.notFirst K C (.type k.name) = true := by
  show (Value.type k.name == Value.ref C || PySem.W.subIn K (.type k.name) (.ref C) == some false) = true
  rw [sub_ty_ref (knd_find k)]
  exact Bool.or_eq_true_iff.mpr (.inr (by decide))
theorem kit_meta {T : String} {b : Bool} (h : PySem.W.subIn K (.ref C) (.type T) = some b) (hm : PySem.W.kitMeta T = true) : PySem.W.kitOne K (.ref C) (.type T) = some b := by
  show (if (Value.ref C == Value.type T) = true then some true else if PySem.W.kitMeta T = true then PySem.W.subIn K (.ref C) (.type T) else none) = some b
  rw [show (Value.ref C == Value.type T) = false from rfl, if_neg Bool.false_ne_true, if_pos hm]
  exact h
theorem ClsX.kTup (T : ClsX K mg x C) : PySem.W.kitOne K (.ref C) (.type "tuple") = some false := kit_meta T.tup (by decide +kernel)
theorem ClsX.kInt (T : ClsX K mg x C) : PySem.W.kitOne K (.ref C) (.type "int") = some false := kit_meta T.int (by decide +kernel)
theorem ClsX.kLst (T : ClsX K mg x C) : PySem.W.kitOne K (.ref C) (.type "list") = some false := kit_meta T.lst (by decide +kernel)
theorem ClsX.kStr (T : ClsX K mg x C) : PySem.W.kitOne K (.ref C) (.type "str") = some false := kit_meta T.str (by decide +kernel)
end
/-! ### an own error's class, from what the top has written -/
section
variable {P : Program} {w : World} {K : PySem.W.Frag} {mg : Str → Option Value} {base : Heap} {x f : Str} {C : Addr}
/-- what k_is finds of the class -/
structure XAt (K : PySem.W.Frag) (mg : Str → Option Value) (x f : Str) (C : Addr) (st : Stmt) (qual : Str) : Prop where
  ox : OexC K C
  gC : mg x = some (.ref C)
  noA : PySem.W.findIn K (.ref C) f = some none
  ec : ExcC K C
  tI : ∃ fI, PySem.W.findIn K (.ref C) "__init__" = some (some (.ref fI)) ∧ PySem.W.typeIn K (.ref fI) = some (.type "function") ∧ ∃ fd, Fun K "__init__" qual st fI fd ∧ Binds K fd ["self", f] []
theorem XAt.cls {st : Stmt} {qual : Str} (T : XAt K mg x f C st qual) (h : ∀ fI fd, Fun K "__init__" qual st fI fd → FnOk P w K mg base CX0 1 fI fd ["self", f] (spXI C f)) : XCls P w K mg base x f C := by
  obtain ⟨fI, i1, i2, fd, F, b⟩ := T.tI
  exact ⟨T.ox, T.gC, T.noA, T.ec, fI, fd, i1, i2, h fI fd F, b⟩
end
/-! ### fields -/
section
theorem lk_put {f g : Str} {v : V} {fs : List (Str × V)} : List.lookup g ((f, v) :: fs) = if (g == f) = true then some v else List.lookup g fs := by
  simp only [List.lookup]
  split
  · rename_i h; rw [h, if_pos rfl]
  · rename_i h; rw [h, if_neg Bool.false_ne_true]
end
end L2

set_option Elab.async false
set_option maxRecDepth 100000
set_option maxHeartbeats 4000000
/-! plain data: lists and tuples of flat values, compared -/
namespace L2
open PySem PySem.Spec PyProof.Rows
def pd : V → PyData
  | .int i => .int i
  | .bl b => .bool b
  | .str s => .str s
  | _ => .none
/-- flat, its text (if it is one) within the model's signs -/
def Fl : V → Prop
  | .int _ => True
  | .bl _ => True
  | .non => True
  | .str s => PySem.PyData.canLay0 (.str s) = true
  | _ => False
section
variable {K : PySem.W.Frag} {H : Hp} {v u : V}
theorem dp_fl (h : Fl v) : Dp K H v (pd v) := by
  cases v <;> first | exact .int _ | exact .bl _ | exact .str _ | exact .non | exact h.elim
theorem dp_all : ∀ {vs : List V}, (∀ v ∈ vs, Fl v) → DpAll K H vs (vs.map pd)
  | [], _ => .nil
  | v :: vs, h => .cons (dp_fl (h v List.mem_cons_self)) (dp_all fun u hu => h u (List.mem_cons_of_mem _ hu))
theorem lay_fl (h : Fl v) : (pd v).canLay0 = true := by
  cases v <;> first | rfl | exact h | exact h.elim
theorem dep_fl : (pd v).depth = 0 := by cases v <;> rfl
theorem lay_all : ∀ {vs : List V}, (∀ v ∈ vs, Fl v) → PyData.canLayAll0 (vs.map pd) = true ∧ PyData.depthAll (vs.map pd) = 0
  | [], _ => ⟨rfl, rfl⟩
  | v :: vs, h => by
    obtain ⟨a, b⟩ := lay_all (vs := vs) fun u hu => h u (List.mem_cons_of_mem _ hu)
    constructor
    · show ((pd v).canLay0 && PyData.canLayAll0 (vs.map pd)) = true
      rw [lay_fl (h v List.mem_cons_self), a]
      rfl
    · show max (pd v).depth (PyData.depthAll (vs.map pd)) = 0
      rw [dep_fl, b]
      rfl
theorem shp_fl (h : Fl v) : SeqAt.shaped (pd v) = true := by
  show ((pd v).canLay0 && decide ((pd v).depth ≤ 64)) = true
  rw [lay_fl h, dep_fl]
  rfl
theorem shp_tup {vs : List V} (h : ∀ v ∈ vs, Fl v) : SeqAt.shaped (.tuple (vs.map pd)) = true := by
  obtain ⟨a, b⟩ := lay_all h
  show (PyData.canLayAll0 (vs.map pd) && decide (PyData.depthAll (vs.map pd) + 1 ≤ 64)) = true
  rw [a, b]
  rfl
theorem shp_lst {vs : List V} (h : ∀ v ∈ vs, Fl v) : SeqAt.shaped (.list (vs.map pd)) = true := by
  obtain ⟨a, b⟩ := lay_all h
  show (PyData.canLayAll0 (vs.map pd) && decide (PyData.depthAll (vs.map pd) + 1 ≤ 64)) = true
  rw [a, b]
  rfl
theorem fl_int (n : Int) : Fl (.int n) := trivial
theorem fl_ints {ns : List Int} : ∀ v ∈ ns.map V.int, Fl v := fun v hv => by
  obtain ⟨n, _, rfl⟩ := List.mem_map.mp hv
  trivial
theorem eqv_ints : ∀ (ns ms : List Int), PyData.eqvAll ((ns.map V.int).map pd) ((ms.map V.int).map pd) = decide (ns = ms)
  | [], [] => rfl
  | [], _ :: _ => rfl
  | _ :: _, [] => rfl
  | n :: ns, m :: ms => by
    show ((n == m) && PyData.eqvAll ((ns.map V.int).map pd) ((ms.map V.int).map pd)) = decide (n :: ns = m :: ms)
    rw [eqv_ints ns ms, Bool.eq_iff_iff]
    simp
/-- the same values are equal data -/
theorem eqv_same : ∀ {vs : List V}, (∀ v ∈ vs, Fl v) → PyData.eqvAll (vs.map pd) (vs.map pd) = true
  | [], _ => rfl
  | v :: vs, h => by
    show (PyData.eqv (pd v) (pd v) && PyData.eqvAll (vs.map pd) (vs.map pd)) = true
    rw [eqv_same (vs := vs) fun u hu => h u (List.mem_cons_of_mem _ hu), Bool.and_true]
    cases v <;> first | rfl | (show (_ == _) = true; exact beq_self_eq_true _)
/-- two tuples compared (op_eqD, op_neD): what is left -/
theorem eqD_tup {p q : Addr} {vs us : List V} {Q : VK} (hp : SqT K H p vs) (hq : SqT K H q us) (fv : ∀ v ∈ vs, Fl v) (fu : ∀ v ∈ us, Fl v) (h : Q (.bl (PyData.eqvAll (vs.map pd) (us.map pd))) H) : rEqD K (.ref p) (.ref q) H Q :=
  ⟨_, _, .tup hp (dp_all fv), .tup hq (dp_all fu), shp_tup fv, shp_tup fu, h⟩
theorem neD_tup {p q : Addr} {vs us : List V} {Q : VK} (hp : SqT K H p vs) (hq : SqT K H q us) (fv : ∀ v ∈ vs, Fl v) (fu : ∀ v ∈ us, Fl v) (h : Q (.bl (!PyData.eqvAll (vs.map pd) (us.map pd))) H) : rNeD K (.ref p) (.ref q) H Q :=
  ⟨_, _, .tup hp (dp_all fv), .tup hq (dp_all fu), shp_tup fv, shp_tup fu, h⟩
theorem eqD_lst {p q : Addr} {vs us : List V} {Q : VK} (hp : SqL K H p vs) (hq : SqL K H q us) (fv : ∀ v ∈ vs, Fl v) (fu : ∀ v ∈ us, Fl v) (h : Q (.bl (PyData.eqvAll (vs.map pd) (us.map pd))) H) : rEqD K (.ref p) (.ref q) H Q :=
  ⟨_, _, .lst hp (dp_all fv), .lst hq (dp_all fu), shp_lst fv, shp_lst fu, h⟩
theorem neD_lst {p q : Addr} {vs us : List V} {Q : VK} (hp : SqL K H p vs) (hq : SqL K H q us) (fv : ∀ v ∈ vs, Fl v) (fu : ∀ v ∈ us, Fl v) (h : Q (.bl (!PyData.eqvAll (vs.map pd) (us.map pd))) H) : rNeD K (.ref p) (.ref q) H Q :=
  ⟨_, _, .lst hp (dp_all fv), .lst hq (dp_all fu), shp_lst fv, shp_lst fu, h⟩
end
end L2

set_option Elab.async false
set_option maxRecDepth 100000
set_option maxHeartbeats 4000000
namespace L2
open PySem PySem.Spec PyProof.Rows
section
variable {X : Cx}
/-- range(j), kept -/
theorem cr_range1 : CallR X (.type "range") (fun vs H Q => ∃ j, vs = [V.int j] ∧ ∀ p, H p = none → Q (.ref p) (upd H p (.rng 0 j))) := by
  intro pins s σ H vs us Q I r h
  obtain ⟨j, rfl, q⟩ := h
  obtain ⟨u1, rfl, rj⟩ := vals1 r
  obtain ⟨t, rfl⟩ := rj
  refine call_range_1 ⟨.ref s.heap.objs.size, upd H s.heap.objs.size (.rng 0 j), I.laid (t' := s.toks + 1 + 1) (fun b o e => Heap.get?_push_of_some _ e) (Nat.le_refl _) ?_, rfl, q _ (I.hok.fresh (Nat.le_refl _))⟩
  exact ⟨s.toks, t, s.toks + 1, Heap.get?_push_size _ rfl⟩
/-- len of a range -/
theorem call_lenR : CallR X (.builtin "len") (fun xs H Q => ∃ a lo hi, xs = [.ref a] ∧ H a = some (.rng lo hi) ∧ (hi - lo).toNat < 2 ^ 62 ∧ Q (.int ((hi - lo).toNat : Int)) H) := by
  intro pins s σ H xs us Q I r h
  obtain ⟨a, lo, hi, rfl, ha, hz, q⟩ := h
  rw [Vals.ref1 r]
  obtain ⟨t, u, v, ho⟩ := I.hok a _ ha
  exact call_len_range (n := (hi - lo).toNat) ho (rangeSize_nat lo hi) (by omega) ⟨.int ((hi - lo).toNat : Int), H, I.tok _, ⟨_, rfl⟩, q⟩
/-- sum of a tuple of ints -/
def rSumT (K : PySem.W.Frag) : List V → Hp → VK → Prop := fun vs H Q => ∃ (a : Addr) (ns : List Int), vs = [V.ref a] ∧ SqT K H a (ns.map V.int) ∧ Q (.int ns.sum) H
theorem cr_sumT (hc : X.calm = true) : CallR X (.builtin "sum") (rSumT X.K) := by
  intro pins s σ H vs us Q I r h
  obtain ⟨a, ns, rfl, hs, q⟩ := h
  obtain ⟨its, rv, hl, _⟩ := I.tuple hs
  rw [Vals.ref1 r]
  have hi := rv.ints
  obtain ⟨xs, e⟩ := hi.allInts.items
  have hn : numsOf (intItems xs).toList = ns := by rw [← e]; exact hi.numsOf
  rw [nums_intItems] at hn
  rw [e] at hl
  refine PySem.W.ktm_sumG (I.ok.hd hc) hl fun h' tk t' hk => ?_
  rw [preSum_eq, List.take_of_length_le (by simp), hn]
  exact ⟨.int ns.sum, H, I.kept hk, ⟨_, rfl⟩, q⟩
end
end L2

set_option Elab.async false
set_option maxRecDepth 100000
set_option maxHeartbeats 4000000
namespace L2
open PySem PySem.Spec PyProof.Rows
/-- a list or tuple at p of the items xs -/
def Sq (H : Hp) (p : Addr) (xs : List V) : Prop := H p = some (.lst xs) ∨ H p = some (.tup xs)
section
variable {K : PySem.W.Frag} {H H' : Hp} {p : Addr} {xs : List V}
theorem Sq.k (h : Sq H p xs) : ∃ k, KndOf H (.ref p) k ∧ k.isSeq = true := by
  rcases h with h | h
  · exact ⟨.list, ⟨p, xs, rfl, h⟩, rfl⟩
  · exact ⟨.tuple, ⟨p, xs, rfl, h⟩, rfl⟩
theorem Sq.ext (h : Sq H p xs) (e : Ext H H') : Sq H' p xs := h.imp (e _ _) (e _ _)
theorem Sq.l (h : Sq H p xs) : SqL K H p xs ∨ SqT K H p xs := h.imp SqL.of SqT.of
theorem ext_mut {D : Addr} {o : HO} (e : Ext H H') (h : H D = none) : Ext H (upd H' D o) := fun a u ha => by
  rw [upd_ne (ne_of_none ha h)]
  exact e a u ha
theorem ext_none {D : Addr} (e : Ext H H') (h : H' D = none) : H D = none := by
  cases h1 : H D with
  | none => rfl
  | some o =>
    rw [e D o h1] at h
    cases h
end
section
variable {X : Cx} {tg : Expr}
/-- a list or a tuple is walked -/
def iSq (K : PySem.W.Frag) (tl : TE) : TI := fun σ H R => tl σ H fun x H1 => ∃ a, x = .ref a ∧ (((∃ xs, SqL K H1 a xs) ∧ R (Itl K a) H1) ∨ ((∃ xs, SqT K H1 a xs) ∧ R (Itt K a) H1))
theorem pi_sq {l : Expr} {tl : TE} (hl : PE X l tl) : PI X tg l (iSq X.K tl) := by
  refine ⟨fun pins s σ H R I h => ?_⟩
  refine thn (hl.run pins s σ H _ I h) fun v s1 ⟨x, H1, I1, r1, q1⟩ => ?_
  obtain ⟨a, e, q1⟩ := q1
  subst e
  cases r1
  rcases q1 with ⟨⟨xs, hq⟩, q⟩ | ⟨⟨xs, hq⟩, q⟩
  · obtain ⟨its, rv, p, hz⟩ := I1.list hq
    refine wpAny_pyIter_list p.isList ?_
    refine ⟨s1.heap.objs.size, [s1.heap.objs.size], _, _, H1, rfl, I1.kept (t' := s1.toks) fun b o e => Heap.get?_push_of_some _ e, turn_list a _, ⟨_, Heap.get?_push_size _ rfl, rfl, rfl⟩, fun b hb => ?_, q⟩
    have e : b = s1.heap.objs.size := by simpa using hb
    subst e
    exact I1.fpOk (Nat.le_refl _) (I1.hok.fresh (Nat.le_refl _))
  · obtain ⟨its, rv, p, hz⟩ := I1.tuple hq
    refine wpAny_pyIter_tuple (show s1.heap.IsTuple a its.toArray from p) ?_
    refine ⟨s1.heap.objs.size, [s1.heap.objs.size], _, _, H1, rfl, I1.kept (t' := s1.toks) fun b o e => Heap.get?_push_of_some _ e, turn_tuple a _, ⟨_, Heap.get?_push_size _ rfl, rfl, rfl⟩, fun b hb => ?_, q⟩
    have e : b = s1.heap.objs.size := by simpa using hb
    subst e
    exact I1.fpOk (Nat.le_refl _) (I1.hok.fresh (Nat.le_refl _))
end
section
variable {K : PySem.W.Frag} {σ : St} {H : Hp} {p : Addr} {xs : List V} {te : TE} {tt : TT} {j : Nat} {vs : List Nat} {Q : VK}
theorem take_snoc {α : Type} {l : List α} {i : Nat} {x : α} (h : l[i]? = some x) : l.take (i + 1) = l.take i ++ [x] := by
  rw [List.take_add_one, h]
  rfl
/-- [f(x) for x in xs if b(x)], what is tested and made only adding to the heap: the reading behind the source's own -/
theorem lc_sqR {Qd : Addr → Hp → Prop} {f : V → V} {b : V → Bool} (hx : Sq H p xs) (hz : xs.length < sizeLine) (hw : ∀ x, wipe ((wipe σ vs).set j (some x)) vs = wipe σ vs)
    (ht : ∀ x ∈ xs, ∀ H', Ext H H' → ∀ Q : Bool → Hp → Prop, (∀ H'', Ext H' H'' → Q (b x) H'') → tt ((wipe σ vs).set j (some x)) H' Q)
    (he : ∀ x ∈ xs, b x = true → ∀ H', Ext H H' → ∀ Q : VK, (∀ H'', Ext H' H'' → Q (f x) H'') → te ((wipe σ vs).set j (some x)) H' Q)
    (q : ∀ D H', H D = none → Ext H H' → H' D = some (.lst ((xs.filter b).map f)) → Qd D H') :
    ((∃ xs, SqL K H p xs) ∧ (fun J H1 => ∀ D, H1 D = none → ∃ W : Nat → Nat → Hp → Prop, (∃ m, W 0 m (upd H1 D (.lst []))) ∧ ∀ i m H, W i m H →
      (J.stop i H ∧ Qd D H) ∨ (J.go i H ∧ ∃ Nx : Hp → Prop, (∀ H', Nx H' → ∃ m', m' < m ∧ W (i + 1) m' H') ∧ ∀ x H', J.yld i H x H' → gName j x (wipe σ vs) H' fun σ2 H2 => wipe σ2 vs = wipe σ vs ∧ tt σ2 H2 fun b H3 =>
        if b = true then te σ2 H3 fun y H4 => ∃ acc, H4 D = some (.lst acc) ∧ acc.length < sizeLine ∧ Nx (upd H4 D (.lst (acc ++ [y]))) else Nx H3)) (Itl K p) H) ∨
    ((∃ xs, SqT K H p xs) ∧ (fun J H1 => ∀ D, H1 D = none → ∃ W : Nat → Nat → Hp → Prop, (∃ m, W 0 m (upd H1 D (.lst []))) ∧ ∀ i m H, W i m H →
      (J.stop i H ∧ Qd D H) ∨ (J.go i H ∧ ∃ Nx : Hp → Prop, (∀ H', Nx H' → ∃ m', m' < m ∧ W (i + 1) m' H') ∧ ∀ x H', J.yld i H x H' → gName j x (wipe σ vs) H' fun σ2 H2 => wipe σ2 vs = wipe σ vs ∧ tt σ2 H2 fun b H3 =>
        if b = true then te σ2 H3 fun y H4 => ∃ acc, H4 D = some (.lst acc) ∧ acc.length < sizeLine ∧ Nx (upd H4 D (.lst (acc ++ [y]))) else Nx H3)) (Itt K p) H) := by
  have turn : ∀ (D : Addr), H D = none → ∀ i x H', xs[i]? = some x → (Ext H H' ∧ H' D = some (.lst (((xs.take i).filter b).map f))) → gName j x (wipe σ vs) H' fun σ2 H2 => wipe σ2 vs = wipe σ vs ∧ tt σ2 H2 fun b' H3 =>
      if b' = true then te σ2 H3 fun y H4 => ∃ acc, H4 D = some (.lst acc) ∧ acc.length < sizeLine ∧ (Ext H (upd H4 D (.lst (acc ++ [y]))) ∧ upd H4 D (.lst (acc ++ [y])) D = some (.lst (((xs.take (i + 1)).filter b).map f))) else (Ext H H3 ∧ H3 D = some (.lst (((xs.take (i + 1)).filter b).map f))) := by
    intro D hD i x H' hi pv
    obtain ⟨e, hl⟩ := pv
    have hm : x ∈ xs := List.mem_of_getElem? hi
    refine ⟨hw x, ht x hm H' e _ fun H3 e3 => ?_⟩
    have hl3 : H3 D = some (.lst (((xs.take i).filter b).map f)) := e3 _ _ hl
    cases hb : b x with
    | true =>
      refine iteT (he x hm hb H3 (e.trans e3) _ fun H4 e4 => ⟨_, e4 _ _ hl3, ?_, ext_mut ((e.trans e3).trans e4) hD, ?_⟩)
      · rw [List.length_map]
        refine Nat.lt_of_le_of_lt (Nat.le_trans (List.length_filter_le _ _) ?_) hz
        exact List.length_take_le' _ _
      · rw [upd_same, take_snoc hi, List.filter_append, List.map_append]
        simp [hb]
    | false =>
      refine iteF ⟨e.trans e3, ?_⟩
      rw [hl3, take_snoc hi, List.filter_append, List.map_append]
      simp [hb]
  have fin : ∀ D, H D = none → ∀ H', (Ext H H' ∧ H' D = some (.lst (((xs.take xs.length).filter b).map f))) → Qd D H' := fun D hD H' pv => by
    rw [List.take_length] at pv
    exact q D H' hD pv.1 pv.2
  rcases hx with hx | hx
  · refine .inl ⟨⟨xs, SqL.of hx⟩, fun D hD => lc_list (xs := xs) (fun i H' => Ext H H' ∧ H' D = some (.lst (((xs.take i).filter b).map f))) ⟨Ext.upd hD, upd_same⟩ (fun i H' _ pv => SqL.of (pv.1 _ _ hx)) (fun i x H' hi pv => turn D hD i x H' hi pv) (fun H' pv => fin D hD H' pv)⟩
  · refine .inr ⟨⟨xs, SqT.of hx⟩, fun D hD => lc_tup (xs := xs) (fun i H' => Ext H H' ∧ H' D = some (.lst (((xs.take i).filter b).map f))) ⟨Ext.upd hD, upd_same⟩ (fun i H' _ pv => SqT.of (pv.1 _ _ hx)) (fun i x H' hi pv => turn D hD i x H' hi pv) (fun H' pv => fin D hD H' pv)⟩
end
theorem filter_all {α : Type} (l : List α) : l.filter (fun _ => true) = l := List.filter_eq_self.mpr fun _ _ => rfl
end L2

set_option Elab.async false
set_option maxRecDepth 100000
set_option maxHeartbeats 4000000
/-! enumerate over a list or a tuple -/
namespace PySem
open Sem (wp)
/-- the maker of enumerate, handed one thing whose iterator is told -/
theorem en1_meets {v : Value} {ob : Obj} {HP : Heap → Prop} (BG : Begins v ob HP) :
    Meets (Builtin.«enumerate.__new__» ⟨[.type "enumerate", v], []⟩) (fun _ RR sh => HP sh.heap ∧
      RR (.ok (.ret (.ref (sh.heap.push ob).objs.size)))
        { sh with heap := (sh.heap.push ob).push { cls := .type "enumerate", data := .fields #[.none, .bool false, .ref sh.heap.objs.size, rawInt 0, .none, .none] } }) :=
  .of_wp fun pr ww AA RR sh hh => by
    obtain ⟨hp, gg, dd, tk, os⟩ := sh
    obtain ⟨hh1, hh⟩ := hh
    have sub1 := sub_enumerate
    have begin1 : ∀ {A1 : Around} {E1 Q1 : Value → Shared → Prop}, Q1 (.ref hp.objs.size) ⟨hp.push ob, gg, dd, tk, os⟩ →
        wpAny (model pr ww) A1 (pyIter v) Q1 E1 ⟨hp, gg, dd, tk, os⟩ :=
      fun qq => BG.iter pr ww _ _ ⟨hp, gg, dd, tk, os⟩ _ hh1 qq
    wp_walk using begin1
    refine wpAny_stack_any fun sta => wpAny_pure ?_
    split
    · rename_i cc _ _ _ _ _
      cases (cc == Value.type "enumerate")
      all_goals
        wp_walk using begin1
        exact ⟨_, rfl, hh⟩
    · wp_walk using begin1
      exact ⟨_, rfl, hh⟩
section
variable {pr : Program} {ww : World} {AA : Around} {EE : Value → Shared → Prop} {sh : Shared}
theorem en1_call {v : Value} {ob : Obj} {HP : Heap → Prop} {QQ : Value → Shared → Prop} (BG : Begins v ob HP) (hh : HP sh.heap)
    (kk : ∀ h1, IsEnum h1 (sh.heap.objs.size + 1) sh.heap.objs.size 0 .none → h1.get? sh.heap.objs.size = some ob →
      (∀ x y, sh.heap.get? x = some y → h1.get? x = some y) → QQ (.ref (sh.heap.objs.size + 1)) { sh with heap := h1 }) :
    wpAny (model pr ww) AA (call (.type "enumerate") [v]) QQ EE sh := by
  refine callType_new F.called_enumerate (by decide) (F.typeCall_enumerate_1 _) (F.newCall_enumerate_1 _) (fun oo => F.args_object_init_2 oo _) F.entry_enumerate_new (en1_meets BG) ⟨hh, ?_⟩
  have sz : (sh.heap.push ob).objs.size = sh.heap.objs.size + 1 := Heap.size_push ..
  show _ ∧ _
  rw [sz]
  have en : IsEnum ((sh.heap.push ob).push { cls := .type "enumerate", data := .fields #[.none, .bool false, .ref sh.heap.objs.size, rawInt 0, .none, .none] })
      (sh.heap.objs.size + 1) sh.heap.objs.size 0 .none := by
    have qq := Heap.get?_push_size (sh.heap.push ob) (o := { cls := .type "enumerate", data := .fields #[.none, .bool false, .ref sh.heap.objs.size, rawInt 0, .none, .none] }) rfl
    rw [sz] at qq
    exact qq
  exact ⟨⟨_, en, rfl⟩, kk _ en (Heap.get?_push_of_some _ (Heap.get?_push_size _ BG.free)) fun x y hx => Heap.get?_push_of_some _ (Heap.get?_push_of_some _ hx)⟩
end
end PySem
namespace L2
open PySem PySem.Spec PyProof.Rows
/-- the tuple at a, each item in a new pair with its place -/
def Itet (K : PySem.W.Frag) (a : Addr) : It :=
  ⟨fun i H => ∃ xs : List V, SqT K H a xs ∧ i < xs.length,
    fun i H v H' => ∃ T x, v = .ref T ∧ H T = none ∧ H' = upd H T (.tup [.int (i : Nat), x]) ∧ ∀ xs, SqT K H a xs → xs[i]? = some x,
    fun i H => ∃ xs : List V, SqT K H a xs ∧ xs.length = i⟩
theorem turn_enT {P : Program} {w : World} {K : PySem.W.Frag} {elts : List Expr} {kk : Nat} {tpos : Pos} (a e it : Addr) (hea : e ≠ a) (hia : a ≠ it) :
    Turn P w K (.Tuple elts kk tpos) (Itet K a) [e, it] e (fun i h => (∃ old, IsEnum h e it ((i : Nat) : Int) old) ∧ h.IsTupleIter it a i ∧ e ≠ it) where
  mem := List.mem_cons_self
  obj := fun i h st b hb => by
    obtain ⟨⟨old, he⟩, ⟨o, ho, _, hd⟩, _⟩ := st
    rcases List.mem_cons.mp hb with z | z
    · subst z
      exact ⟨_, he, fun v q => nomatch q⟩
    · have z' := List.mem_singleton.mp z
      subst z'
      exact ⟨o, ho, fun v q => by rw [hd] at q; cases q⟩
  keep := fun i h h' st k => by
    obtain ⟨⟨old, he⟩, hi, hne⟩ := st
    exact ⟨⟨old, k e List.mem_cons_self _ he⟩, hi.at fun o q => k it (List.mem_cons_of_mem _ (List.mem_singleton.mpr rfl)) o q, hne⟩
  item := by
    intro X hP hw hK hc i pins s σ H E I hf st hg
    subst hP hw hK
    obtain ⟨⟨old, he⟩, hit, hne⟩ := st
    obtain ⟨xs, hq, hx⟩ := hg
    obtain ⟨its, rv, p, hz⟩ := I.tuple hq
    have hl := rv.length
    have hel : e < s.heap.objs.size := Heap.lt_size he
    have hil : it < s.heap.objs.size := by
      obtain ⟨_, q, _⟩ := hit
      exact Heap.lt_size q
    have D := Draws.tuple (prog := X.prog) (w := X.w) (A := X.A.in1) (show X.A.in1.handled = none from I.ok.hd hc) it a hia its.toArray
    refine wpAny_pyNext_enum_itemC D he (i := i) ⟨hit, p⟩ (by simp; omega) hne (by simp [hne, hea]) fun u h' tk hP ho hst' hT hsz hk => ?_
    have hu : its[i]? = some u := by simpa using hP
    obtain ⟨x, hxx⟩ : ∃ x, xs[i]? = some x := ⟨_, List.getElem?_eq_getElem hx⟩
    obtain ⟨u', hu', ru'⟩ := rv.get hxx
    have eu : u' = u := Option.some.inj (hu'.symm.trans hu)
    subst eu
    refine ⟨_, rfl, wpAny_letOwnedTupleGo_enum (s := { s with heap := h', toks := tk + 1 }) ho fun h2 he2 sb => ?_⟩
    have hT2 : h2.get? s.heap.objs.size = some { cls := .type "tuple", data := .seq #[.int i tk, u'] } := (sb.2 _ (Nat.ne_of_gt hel)).trans hT
    have new : ObjOk X.prog X.w (upd H s.heap.objs.size (.tup [.int (i : Nat), x])) h2 s.heap.objs.size (.tup [.int (i : Nat), x]) := by
      refine ⟨?_, [.int i tk, u'], .cons ⟨_, rfl⟩ (.cons ru' .nil), ⟨_, hT2, rfl, _, rfl⟩⟩
      show 2 ≤ sizeLine
      decide
    have I1 : Inv X pins σ (upd H s.heap.objs.size (.tup [.int (i : Nat), x])) { s with heap := h2, toks := tk + 1 } := by
      refine I.turnedNew (ch := [e, it]) (fun b ob hb q => ?_) hf (Nat.le_refl _) new
      have b1 : b ≠ e := fun z => hb (by simp [z])
      have b2 : b ≠ it := fun z => hb (by simp [z])
      exact (sb.2 b b1).trans (hk b ob b1 b2 q)
    refine ⟨.ref s.heap.objs.size, _, I1, rfl, ⟨_, x, rfl, I.hok.fresh (Nat.le_refl _), rfl, fun ys hy => ?_⟩, ⟨⟨u', ?_⟩, hst'.1.at fun o q => (sb.2 it (Ne.symm hne)).trans q, hne⟩, fun b hb => ?_⟩
    · obtain ⟨its2, rv2, p2, _⟩ := I.tuple hy
      rw [I.tuple_inj hy hq]
      exact hxx
    · have e1 : ((i + 1 : Nat) : Int) = (i : Int) + 1 := rfl
      rw [e1]
      exact he2
    · have hb' : b < s.heap.objs.size := by
        rcases List.mem_cons.mp hb with z | z
        · rw [z]
          exact hel
        · rw [List.mem_singleton.mp z]
          exact hil
      rw [upd_ne (Nat.ne_of_lt hb')]
      exact (hf b hb).1
  done := by
    intro X hP hw hK hc i pins s σ H E I hf st hg
    subst hP hw hK
    obtain ⟨⟨old, he⟩, hit, hne⟩ := st
    obtain ⟨xs, hq, hx⟩ := hg
    obtain ⟨its, rv, p, hz⟩ := I.tuple hq
    have hl := rv.length
    obtain ⟨f0, f1, f2, f3, f4, f5⟩ := hf it (List.mem_cons_of_mem _ (List.mem_singleton.mpr rfl))
    have D := Draws.tuple (prog := X.prog) (w := X.w) (A := X.A.in1) (show X.A.in1.handled = none from I.ok.hd hc) it a hia its.toArray
    have ei : i = its.toArray.size := by simp; omega
    refine wpAny_pyNext_enum_endD D he (by rw [← ei]; exact ⟨hit, p⟩) fun h' eb => ⟨rfl, ?_⟩
    exact I.turned (t' := s.toks) (fun b o hb q => eb b o hb q) f0 f1 f3 f4 f5
  self := fun A i s Q E st h => by
    obtain ⟨⟨_, he⟩, _⟩ := st
    exact wpAny_pyIter_enum he h
/-- a list or a tuple is walked with the places -/
def iEnSq (K : PySem.W.Frag) (ta : TA) : TI := fun σ H R => ta σ H fun vs H1 => ∃ a, vs = [.ref a] ∧ (((∃ xs, SqL K H1 a xs) ∧ R (Ite K a) H1) ∨ ((∃ xs, SqT K H1 a xs) ∧ R (Itet K a) H1))
theorem pi_enSq {X : Cx} {e : Expr} {ta : TA} {p pos tpos : Pos} {elts : List Expr} {kk : Nat} (hg : Gl X "enumerate") (hm : X.mg "enumerate" = none) (ha : PA X [e] ta) (hs : starEach [e] X.env = [(false, eval e X.env)] := by rfl) :
    PI X (.Tuple elts kk tpos) (.Call (.Name "enumerate" p) [e] [] pos) (iEnSq X.K ta) := by
  refine ⟨fun pins s σ H R I h => ?_⟩
  refine Call_ (ld_blt I hg hm boot_enumerate (PyProof.Rows.callWith_type1 (thn (ha.run pos pins s σ H _ I h) fun us s1 ⟨vs, H1, I1, r1, q1⟩ => ?_) hs rfl))
  obtain ⟨a, ex, q1⟩ := q1
  subst ex
  obtain rfl := Vals.ref1 r1
  have two : ∀ b, b ∈ [s1.heap.objs.size + 1, s1.heap.objs.size] → s1.heap.objs.size ≤ b := fun b hb => by
    rcases List.mem_cons.mp hb with z | z
    · rw [z]
      exact Nat.le_add_right _ _
    · rw [List.mem_singleton.mp z]
      exact Nat.le_refl _
  rcases q1 with ⟨⟨xs, hq⟩, q⟩ | ⟨⟨xs, hq⟩, q⟩
  · obtain ⟨its, rv, p', hz⟩ := I1.list hq
    refine en1_call (begins_list a its.toArray) p'.isList fun h' he hit hk => wpAny_pyIter_enum he ?_
    have I2 : Inv X pins σ H1 { s1 with heap := h' } := I1.kept (t' := s1.toks) hk
    refine ⟨s1.heap.objs.size + 1, [s1.heap.objs.size + 1, s1.heap.objs.size], _, _, H1, rfl, I2, turn_enum a (s1.heap.objs.size + 1) s1.heap.objs.size, ⟨⟨.none, he⟩, ⟨_, hit, rfl, rfl⟩, Nat.succ_ne_self _⟩, fun b hb => ?_, q⟩
    exact I1.fpOk (two b hb) (I1.hok.fresh (two b hb))
  · obtain ⟨its, rv, p', hz⟩ := I1.tuple hq
    have hlt : a < s1.heap.objs.size := by
      obtain ⟨o, ho, _⟩ := (show s1.heap.IsTuple a its.toArray from p')
      exact Heap.lt_size ho
    refine en1_call (begins_tuple a its.toArray) p' fun h' he hit hk => wpAny_pyIter_enum he ?_
    have I2 : Inv X pins σ H1 { s1 with heap := h' } := I1.kept (t' := s1.toks) hk
    refine ⟨s1.heap.objs.size + 1, [s1.heap.objs.size + 1, s1.heap.objs.size], _, _, H1, rfl, I2, turn_enT a (s1.heap.objs.size + 1) s1.heap.objs.size (Nat.ne_of_gt (Nat.lt_succ_of_lt hlt)) (Nat.ne_of_lt hlt), ⟨⟨.none, he⟩, ⟨_, hit, rfl, rfl⟩, Nat.succ_ne_self _⟩, fun b hb => ?_, q⟩
    exact I1.fpOk (two b hb) (I1.hok.fresh (two b hb))
section
variable {K : PySem.W.Frag} {a : Addr} {xs : List V}
theorem walk_enT : Walk (Itet K a) xs.length (fun H => SqT K H a xs) (YPair (fun i => some (.int (i : Nat))) (fun i => xs[i]?)) := by
  refine ⟨fun i _ hi q => ⟨xs, q, hi⟩, fun _ q => ⟨xs, q, rfl⟩, fun i H v H' _ q y => ?_⟩
  obtain ⟨T, x, e1, e2, e3, e4⟩ := y
  exact ⟨T, .int (i : Nat), x, e1, e2, e3, rfl, e4 xs q⟩
/-- the turns of an end: what goes on is N -/
def turnsOf (g : TG) (tb : TS) (D : Ends) (σ : St) (J : It) (H : Hp) : Prop := ∃ W : Nat → Nat → St → Hp → Prop, (∃ m, W 0 m σ H) ∧ ∀ i m σ H, W i m σ H →
  (J.stop i H ∧ D.nx σ H) ∨ (J.go i H ∧ ∃ N : St → Hp → Prop, (∀ σ' H', N σ' H' → ∃ m', m' < m ∧ W (i + 1) m' σ' H') ∧ ∀ x H', J.yld i H x H' → g x σ H' fun σ2 H2 => tb { D with nx := N, ct := N, bk := D.nx } σ2 H2)
theorem for_enSq {g : TG} {tb : TS} {D : Ends} {σ : St} {H : Hp} (hx : SqL K H a xs ∨ SqT K H a xs) (Pv : Nat → St → Hp → Prop) (h0 : Pv 0 σ H) (hE : ∀ i σ' H', Pv i σ' H' → Ext H H')
    (hs : ∀ i x σ' H' T, xs[i]? = some x → Pv i σ' H' → H' T = none → g (.ref T) σ' (upd H' T (.tup [.int (i : Nat), x])) fun σ2 H2 => tb { D with nx := Pv (i + 1), ct := Pv (i + 1), bk := D.nx } σ2 H2) (hd : ∀ σ' H', Pv xs.length σ' H' → D.nx σ' H') :
    ((∃ xs, SqL K H a xs) ∧ turnsOf g tb D σ (Ite K a) H) ∨ ((∃ xs, SqT K H a xs) ∧ turnsOf g tb D σ (Itet K a) H) := by
  have step : ∀ i x σ' H' H'', i < xs.length → Pv i σ' H' → YPair (fun i => some (V.int (i : Nat))) (fun i => xs[i]?) i H' x H'' → g x σ' H'' fun σ2 H2 => tb { D with nx := Pv (i + 1), ct := Pv (i + 1), bk := D.nx } σ2 H2 := by
    rintro i v σ' H' H'' hi pv ⟨T, x, y, rfl, hT, rfl, hx', hy⟩
    cases hx'
    exact hs i y σ' H' T hy pv hT
  rcases hx with hx | hx
  · exact .inl ⟨⟨xs, hx⟩, for_it (walk_enum (xs := xs)) Pv h0 (fun i σ' H' _ pv => hx.ext (hE i σ' H' pv)) step hd⟩
  · exact .inr ⟨⟨xs, hx⟩, for_it (walk_enT (xs := xs)) Pv h0 (fun i σ' H' _ pv => hx.ext (hE i σ' H' pv)) step hd⟩
end
end L2

set_option Elab.async false
set_option maxRecDepth 100000
set_option maxHeartbeats 4000000
/-! values told by the data that they hold -/
namespace L2
open PySem PySem.Spec PyProof.Rows
/-- the type's name -/
def tnD : PyData → String
  | .none => "NoneType" | .bool _ => "bool" | .int _ => "int" | .str _ => "str" | .list _ => "list" | .tuple _ => "tuple" | .dict _ => "dict"
def isIntD : PyData → Bool | .int _ => true | .bool _ => true | _ => false
def isBoolD : PyData → Bool | .bool _ => true | _ => false
def isTupD : PyData → Bool | .tuple _ => true | _ => false
def isListD : PyData → Bool | .list _ => true | _ => false
def isStrD : PyData → Bool | .str _ => true | _ => false
def isSeqD : PyData → Bool | .list _ => true | .tuple _ => true | _ => false
def isNoneD : PyData → Bool | .none => true | _ => false
/-- the int that it is, no truth -/
def betD (d : PyData) (a b : Int) : Bool := match d with
  | .int n => decide (a ≤ n) && decide (n ≤ b)
  | _ => false
def lenD : PyData → Nat | .list ds => ds.length | .tuple ds => ds.length | _ => 0
section
variable {K : PySem.W.Frag} {H H' : Hp} {v : V} {d : PyData}
theorem dp_ty (h : Dp K H v d) : TyX K H v (.type (tnD d)) := by
  cases h with
  | non => exact .base .non
  | bl b => exact .base (.bl b)
  | int i => exact .base (.int i)
  | str s => exact .base (.str s)
  | lst hs _ =>
    rcases hs with (h | ⟨o, h⟩) | ⟨o, its, n, e, c, _⟩
    · exact .base (.lst h)
    · exact .base (.frz h)
    · exact .kList e c
  | tup hs _ =>
    rcases hs with (h | ⟨o, h⟩) | ⟨o, its, n, e, c, _⟩
    · exact .base (.tup h)
    · exact .fTuple h
    · exact .kTuple e c
theorem kd_int : PySem.W.kitOne K (.type (tnD d)) (.type "int") = some (isIntD d) := by cases d <;> exact kit_ty (by dsimp only [tnD, isIntD]; decide +kernel)
theorem kd_bool : PySem.W.kitOne K (.type (tnD d)) (.type "bool") = some (isBoolD d) := by cases d <;> exact kit_ty (by dsimp only [tnD, isBoolD]; decide +kernel)
theorem kd_tup : PySem.W.kitOne K (.type (tnD d)) (.type "tuple") = some (isTupD d) := by cases d <;> exact kit_ty (by dsimp only [tnD, isTupD]; decide +kernel)
theorem kd_list : PySem.W.kitOne K (.type (tnD d)) (.type "list") = some (isListD d) := by cases d <;> exact kit_ty (by dsimp only [tnD, isListD]; decide +kernel)
theorem kd_seq : PySem.W.kitAny K (.type (tnD d)) [.type "list", .type "tuple"] = some (isSeqD d) := by
  unfold PySem.W.kitAny
  rw [kd_list]
  unfold PySem.W.kitAny
  rw [kd_tup]
  cases d <;> rfl
theorem kd_find : (fastFind? (tnD d)).isSome = true := by cases d <;> (dsimp only [tnD]; decide +kernel)
mutual
theorem dp_ext (e : Ext H H') : ∀ (d : PyData) (v : V), Dp K H v d → Dp K H' v d
  | .none, _, h => by cases h; exact .non
  | .bool _, _, h => by cases h; exact .bl _
  | .int _, _, h => by cases h; exact .int _
  | .str _, _, h => by cases h; exact .str _
  | .list ds, _, h => by
    cases h with
    | lst hs ha => exact .lst (hs.ext e) (dps_ext e ds _ ha)
  | .tuple ds, _, h => by
    cases h with
    | tup hs ha => exact .tup (hs.ext e) (dps_ext e ds _ ha)
  | .dict _, _, h => by cases h
theorem dps_ext (e : Ext H H') : ∀ (ds : List PyData) (vs : List V), DpAll K H vs ds → DpAll K H' vs ds
  | [], _, h => by cases h; exact .nil
  | d :: ds, _, h => by
    cases h with
    | cons h1 h2 => exact .cons (dp_ext e d _ h1) (dps_ext e ds _ h2)
end
theorem dps_len : ∀ {vs : List V} {ds : List PyData}, DpAll K H vs ds → vs.length = ds.length
  | [], _, h => by cases h; rfl
  | v :: vs, _, h => by
    cases h with
    | cons _ h2 => exact congrArg Nat.succ (dps_len h2)
theorem dps_get : ∀ {vs : List V} {ds : List PyData} {i : Nat} {v : V}, DpAll K H vs ds → vs[i]? = some v → ∃ d, ds[i]? = some d ∧ Dp K H v d
  | [], _, _, _, _, e => by cases e
  | v :: vs, _, i, _, h, e => by
    cases h with
    | @cons _ _ d ds h1 h2 =>
      cases i with
      | zero => cases e; exact ⟨d, rfl, h1⟩
      | succ i => exact dps_get (i := i) h2 e
theorem bet_int {n a b : Int} : betD (.int n) a b = (decide (a ≤ n) && decide (n ≤ b)) := rfl
theorem bet_not {a b : Int} (h : (isIntD d && !isBoolD d) = false) : betD d a b = false := by cases d <;> first | rfl | cases h
theorem bet_yes {a b : Int} (h : betD d a b = true) : ∃ n, d = .int n ∧ a ≤ n ∧ n ≤ b := by
  cases d <;> first | (rw [bet_int, Bool.and_eq_true, decide_eq_true_eq, decide_eq_true_eq] at h; exact ⟨_, rfl, h.1, h.2⟩) | cases h
theorem int_yes (h : (isIntD d && !isBoolD d) = true) : ∃ n, d = .int n := by cases d <;> first | exact ⟨_, rfl⟩ | cases h
theorem dp_int {n : Int} (h : Dp K H v (.int n)) : v = .int n := by cases h; rfl
theorem dp_seq (h : Dp K H v d) (hs : isSeqD d = true) : ∃ (a : Addr) (xs : List V) (ds : List PyData), v = .ref a ∧ (SqL K H a xs ∨ SqT K H a xs) ∧ DpAll K H xs ds ∧ (d = .list ds ∨ d = .tuple ds) := by
  cases h with
  | lst h ha => exact ⟨_, _, _, rfl, .inl h, ha, .inl rfl⟩
  | tup h ha => exact ⟨_, _, _, rfl, .inr h, ha, .inr rfl⟩
  | _ => cases hs
theorem dp_tup (h : Dp K H v d) (hs : isTupD d = true) : ∃ (a : Addr) (xs : List V) (ds : List PyData), v = .ref a ∧ SqT K H a xs ∧ DpAll K H xs ds ∧ d = .tuple ds := by
  cases h with
  | tup h ha => exact ⟨_, _, _, rfl, h, ha, rfl⟩
  | _ => cases hs
end
/-! ### own methods, called -/
section
variable {X : Cx} {CX : CXT} {m : Str} {k : Nat} {ps : List Str} {sp : Sp} {e o : Expr} {es : List Expr} {t : TA} {ta : TE} {pos apos : Pos} {C : Addr}
theorem pe_ownM0 {pl : Sem Bool} (O : OwnM X.prog X.w X.K X.mg X.base CX C m k ps sp) (he : PE X o ta) (c : Cls X.K C) (hr : Room k X.A) (hx : Passes CX X E0)
    (ht : eval (.Call (.Attribute o m apos) [] [] pos) X.env = (do
      let ov ← eval o X.env
      standAt apos.atName
      let (f, first) ← holding [ov] (getMethod ov m pl)
      callWith pos f first (backTo pos (starEach [] X.env)) (backToKw pos (keywordEach [] X.env))) := by rfl) :
    PE X (.Call (.Attribute o m apos) [] [] pos) (tMeth C m sp [] E0 ta tNil) := by
  obtain ⟨f, fd, F, M, _, hb⟩ := O.ex
  exact pe_meth0 he c M F hr hb .nil hx ht
theorem pe_ownM {pl : Sem Bool} (O : OwnM X.prog X.w X.K X.mg X.base CX C m k ps sp) (he : PE X o ta) (c : Cls X.K C) (hr : Room k X.A) (hx : Passes CX X E0) (ha : PA X (e :: es) t)
    (hst : starEach (e :: es) X.env = (false, eval e X.env) :: starEach es X.env := by rfl) (hpl : (backTo pos (starEach es X.env)).any (·.1) = false := by rfl)
    (ht : eval (.Call (.Attribute o m apos) (e :: es) [] pos) X.env = (do
      let ov ← eval o X.env
      standAt apos.atName
      let (f, first) ← holding [ov] (getMethod ov m pl)
      callWith pos f first (backTo pos (starEach (e :: es) X.env)) (backToKw pos (keywordEach [] X.env))) := by rfl) :
    PE X (.Call (.Attribute o m apos) (e :: es) [] pos) (tMeth C m sp [] E0 ta t) := by
  obtain ⟨f, fd, F, M, _, hb⟩ := O.ex
  exact pe_meth he c M F hr hb .nil hx ha hst hpl ht
end
end L2

set_option Elab.async false
set_option maxRecDepth 100000
set_option maxHeartbeats 4000000
/-! defs that are handed the error that the suite holds; classes made with defaults -/
namespace L2
open PySem PySem.Spec PyProof.Rows
section
variable {X : Cx}
/-- isinstance(e, c), e the held error, anywhere that it is pinned -/
theorem call_isEP {a D : Addr} {cls : Value} {d : Option Addr} {oe : Obj} (hpn : (a, oe) ∈ X.pn) (C : ExcC X.K D) (hz : Zc cls d oe) (hf : ∃ vs, oe.data = .fields vs) : CallR X (.builtin "isinstance") (rIsED X.K D a cls d) := by
  intro pins s σ H xs us Q I r h
  obtain ⟨ec0, hdd, c, cv, b, rfl, hcv, e, q⟩ := h
  subst ec0
  cases r with
  | cons rx rr =>
    cases rr with
    | cons rt rr =>
      cases rr
      cases rx
      have ec := hcv _ rt
      subst ec
      obtain ⟨hget, _⟩ := I.pin (a, oe) (List.mem_append.mpr (.inl hpn))
      obtain ⟨vs, hv⟩ := hf
      have J : ∃ od, PySem.W.InstAt s.heap a oe D od := by
        obtain ⟨oc, od, oda, osl⟩ := oe
        obtain ⟨h1, h2⟩ := hz
        dsimp only at h1 h2 hv
        subst h1 h2 hv
        cases od with
        | none => exact ⟨none, hget, rfl, rfl, trivial⟩
        | some dd =>
          obtain ⟨fs, hfs⟩ := hdd dd rfl
          obtain ⟨mA, hns, _⟩ := (show ObjOk X.prog X.w H s.heap dd (.xd fs) from I.hok dd _ hfs)
          obtain ⟨od, ho, _⟩ := lookIn_ns hns
          exact ⟨some od, hget, rfl, rfl, ho⟩
      exact PySem.W.kia_one (PySem.W.kitx_excD C) I.kIn J e (fun z => nomatch z) fun tk => ⟨.bl b, H, I.kept (t' := tk) fun _ _ z => z, rfl, q⟩
/-- e.f of it -/
theorem pe_xfP {a C : Addr} {oe : Obj} {cls : Value} {d : Option Addr} {e : Expr} {te : TE} {pos : Pos} {n : Str} (hpn : (a, oe) ∈ X.pn) (T : XfC X.K C) (hno : PySem.W.findIn X.K (.ref C) n = some none)
    (hz : Zc cls d oe) (hf : ∃ vs, oe.data = .fields vs) (he : PE X e te) (hb : attributeBase e n X.env (eval e X.env) = eval e X.env := by rfl) :
    PE X (.Attribute e n pos) (tXf a cls d C n te) := by
  refine ⟨fun pins s σ H Q I h => attr_of hb (thn (he.run pins s σ H _ I h) fun u s1 hh => ?_)⟩
  obtain ⟨x, H1, I1, rx, ex, ec, dd, fs, v, ed, ea, l, q⟩ := hh
  subst ex ec ed
  obtain rfl : u = Value.ref a := rx
  obtain ⟨hget, _⟩ := I1.pin (a, oe) (List.mem_append.mpr (.inl hpn))
  obtain ⟨vs, hv⟩ := hf
  obtain ⟨mA, hns, hr⟩ := (show ObjOk X.prog X.w H1 s1.heap dd (.xd fs) from I1.hok dd _ ea)
  obtain ⟨od, ho, hl⟩ := lookIn_ns hns
  obtain ⟨uu, hu, ru⟩ := RelO.some_of (v := v) (o := mA n) (by rw [← l]; exact hr n)
  have ncls : PySem.W.notCls oe = true := by
    unfold PySem.W.notCls
    rw [hv] <;> rfl
  have J : PySem.W.InstAt s1.heap a oe C (some od) := ⟨hget, hz.1, ncls, by rw [hz.2]; exact ho⟩
  have fo := PySem.W.findObj_own T.hdC hno (od := od) rfl (by rw [hl, hu])
  exact HandSPX.exc_get I1.kIn J T.ga T.gg T.exC fo (handed_of ru) ⟨v, H1, I1.tok _, ru, q⟩
end
end L2
namespace L2H
open PySem PySem.Spec PyProof.Rows L2 HotX
/-- such a def: its promise speaks of the held error, too -/
structure FnE (P : Program) (w : World) (K : PySem.W.Frag) (mg : Str → Option Value) (base : Heap) (CX : CXT) (k : Nat) (f : Addr) (fd : FuncData) (ps : List Str) (sp : Addr × Obj → Sp) : Prop where
  len : ∀ p vs H Q E, sp p vs H Q E → vs.length = ps.length
  run : ∀ (p : Addr × Obj) (AA : Around) (outer : List Env) (sh : Shared) (H : Hp) (args : Args) (us : List Value) (vs : List V) (Q : VK) (E : XK), RoomH k AA → PinOk outer H sh p → Env0 P w K mg base AA outer sh H →
    BindsTo sh fd args (ps.zip us) → Vals vs us → sp p vs H Q E → codeAny (model P w) AA (.call (.ref f) args) (CR CX outer P w H sh Q E) sh
section
variable {CX : CXT} {P : Program} {w : World} {K : PySem.W.Frag} {mg : Str → Option Value} {base : Heap} {k : Nat} {f : Addr} {fd : FuncData} {x qual : Str} {st : Stmt} {N ps : List Str} {sp : Addr × Obj → Sp}
theorem fnE_of (F : Fun K x qual st f fd) (S : FnScope N ps (defScope st)) (len : ∀ p vs H Q E, sp p vs H Q E → vs.length = ps.length)
    (hbody : ∀ (p : Addr × Obj) (cdv : Value) (AA : Around) (outer : List Env) (sh : Shared) (H : Hp) (vs : List V) (Q : VK) (E : XK), RoomH k (AA.deeper (envOfC qual (defScope st) sh.heap.objs.size f cdv)) → sp p vs H Q E →
      ∃ t, PSs (cxH CX P w K mg base N qual (defScope st) f cdv AA outer sh H E p) (defBody st) t ∧ t { nx := fun _ H' => Q .non H', rt := Q } (L2.start N vs) H) : FnE P w K mg base CX (k + 1) f fd ps sp := by
  obtain ⟨oc, od, kV, doc, pm, an, cdv, ct, osl, rfl, lk, hcd⟩ := F.ex
  refine ⟨len, fun p AA outer sh H args us vs Q E hr hpin e0 hb r hsp => ?_⟩
  have hl := len _ _ _ _ _ hsp
  have KX : K.In sh.heap := e0.mod.kin.keeps fun b o e => (e0.bs b o e).1
  have lim : sh.heap.NoLimit := e0.mod.nolimit.keeps fun b o e => (e0.bs b o e).1
  have binds : ∀ y ∈ ps.zip us, (defScope st).names.lookup y.1 = some .local ∨ ((defScope st).names.lookup y.1 = some .cell ∧ ((cellsFrom (sh.heap.objs.size + 1) (defScope st).names []).lookup y.1).isSome = true) := by
    rintro ⟨n, v⟩ hy
    rcases S.par n (List.of_mem_zip hy).1 with q | q
    · exact .inl q
    · exact .inr ⟨q, PySem.W.cellsFrom_some _ _ _ (.inl q)⟩
  refine codeAny_call_function hr.depth (KX _ _ lk) rfl S.co S.gen rfl (PySem.W.codeRec_of KX hcd) (hb _ _ _ _ ?_)
  refine wpAny_newFunctionEnv_cells S.kind binds fun env he s1 xx => ?_
  subst he
  refine ⟨lim.keeps xx.toInCall.keep, codeAny_func ?_⟩
  obtain ⟨t, ht, hq⟩ := hbody p cdv AA outer sh H vs Q E (hr.deeper _) hsp
  have I := inv_startH (CX := CX) (E := E) S hpin e0 hl r xx
  refine wpAny_mono (ht.run [] s1 (L2.start N vs) H _ I hq) (fun fl s' hs => ?_) fun _ _ hs => hs
  cases fl with
  | ret u =>
    obtain ⟨v, σ', H', J, rv, q⟩ := hs
    exact ⟨v, H', J.os, J.bare, J.base, J.hok, rv, q⟩
  | next =>
    obtain ⟨σ', H', J, q⟩ := hs
    exact ⟨V.non, H', J.os, J.bare, J.base, J.hok, rfl, q⟩
  | brk =>
    obtain ⟨_, _, _, q⟩ := hs
    exact q.elim
  | cont =>
    obtain ⟨_, _, _, q⟩ := hs
    exact q.elim
end
section
variable {X : Cx} {CX : CXT} {k : Nat} {f : Addr} {fd : FuncData} {ps : List Str} {sp : Addr × Obj → Sp} {x : Str} {q pos : Pos} {e : Expr} {es : List Expr} {t : TA} {p : Addr × Obj}
/-- f(e, ..) in the suite that holds p -/
theorem pe_callE (F : FnE X.prog X.w X.K X.mg X.base CX k f fd ps sp) (hr : RoomH k X.A) (hp : p ∈ X.pn) (hg : Gl X x) (hm : X.mg x = some (.ref f)) (hk : PySem.W.keepIn X.K (.ref f) = true) (hb : Binds X.K fd ps []) (hx : Passes CX X E0)
    (ha : PA X (e :: es) t) (hdb : (x == ("__debug__" : Str)) = false := by decide) (he : starEach (e :: es) X.env = (false, eval e X.env) :: starEach es X.env := by rfl) (hpl : (backTo pos (starEach es X.env)).any (·.1) = false := by rfl) :
    PE X (.Call (.Name x q) (e :: es) [] pos) (tCall (sp p) [] E0 t) := by
  refine ⟨fun pins s σ H Q I h => wpAny_Call_Name_kw (ld_glob I hg hm ?_ hdb)⟩
  refine PySem.W.callWith_K (h₀ := X.base) I.ok.mod.kin hk (thn (ha.run pos pins s σ H _ I h) fun us s1 ⟨vs, H1, I1, r, hsp⟩ => ⟨I1.kIn, ?_⟩) he hpl
  have hsp : sp p vs H1 Q E0 := by
    have z : sp p (vs ++ []) H1 Q E0 := hsp
    rwa [List.append_nil] at z
  have hl : us.length = ps.length := by
    rw [← r.length]
    exact F.len _ _ _ _ _ hsp
  have bd := hb s1 us I1.kIn (by rw [List.append_nil]; exact hl)
  rw [List.append_nil] at bd
  have P1 := I1.pin p (List.mem_append.mpr (.inl hp))
  have hpin : PinOk X.stack H1 s1 p := ⟨P1.1, P1.2.1, fun hm => (List.mem_cons.mp (I1.stkSub p.1 hm)).elim P1.2.2.1 P1.2.2.2.1, P1.2.2.2.2⟩
  refine wpAny_call (codeAny_mono (F.run p X.A X.stack s1 H1 ⟨us, []⟩ us vs Q E0 hr hpin I1.env0 bd r hsp) fun rr s' hq => ?_)
  match rr, hq with
  | .error ee, hq => exact hx pins σ H1 s1 ee s' I1 hq
  | .ok (.ret u), hq => exact I1.after hq
  | .ok .next, hq => exact hq.elim
  | .ok .brk, hq => exact hq.elim
  | .ok .cont, hq => exact hq.elim
end
end L2H
namespace L2
open PySem PySem.Spec PyProof.Rows
/-- a class of the top whose __init__ has defaults, dvs those that fill up -/
structure OwnCD (P : Program) (w : World) (K : PySem.W.Frag) (mg : Str → Option Value) (base : Heap) (CX : CXT) (x : Str) (C : Addr) (k : Nat) (ps : List Str) (sp : Sp) (dvs : List V) : Prop where
  ex : ∃ (f : Addr) (fd : FuncData) (ds : List Value), FnOk P w K mg base CX k f fd ps sp ∧ Mk K C f ∧ mg x = some (.ref C) ∧ Binds K fd ps ds ∧ Vals dvs ds
section
variable {X : Cx} {CX : CXT} {x : Str} {k : Nat} {ps : List Str} {sp : Sp} {e : Expr} {es : List Expr} {t : TA} {p pos : Pos} {C : Addr} {dvs : List V}
theorem pe_newD (O : OwnCD X.prog X.w X.K X.mg X.base CX x C k ps sp dvs) (hr : Room (k + 1) X.A) (hx : Passes CX X E0) (ha : PA X (e :: es) t) (hg : Gl X x := by rfl) (hdb : (x == ("__debug__" : Str)) = false := by decide)
    (he : starEach (e :: es) X.env = (false, eval e X.env) :: starEach es X.env := by rfl) (hpl : (backTo pos (starEach es X.env)).any (·.1) = false := by rfl) : PE X (.Call (.Name x p) (e :: es) [] pos) (tMake C sp dvs E0 t) := by
  obtain ⟨f, fd, ds, F, M, hm, hb, hv⟩ := O.ex
  exact pe_make M F hr hg hm hb hv hx ha hdb he hpl
end
end L2

set_option Elab.async false
set_option maxRecDepth 100000
set_option maxHeartbeats 4000000
/-! a op b op c op d -/
namespace L2
open PySem PySem.Spec PyProof.Rows
def tCh3 (r r' r2 : R2) (ta tb tc td : TE) : TE := fun σ H Q => ta σ H fun x H1 => tb σ H1 fun y H2 => r x y H2 fun z H3 => ∃ k, z = .bl k ∧
  (if k = true then tc σ H3 fun u H4 => r' y u H4 fun z' H5 => ∃ k', z' = .bl k' ∧ (if k' = true then td σ H5 fun v H6 => r2 u v H6 Q else Q (.bl false) H5) else Q (.bl false) H3)
section
variable {X : Cx} {a b c d : Expr} {pos : Pos} {ta tb tc td : TE} {op op' op2 : CmpOp} {r r' r2 : R2}
theorem pe_chain3 (ho : OpR X (compareOp op) r) (ho' : OpR X (compareOp op') r') (ho2 : OpR X (compareOp op2) r2) (ha : PE X a ta) (hb : PE X b tb) (hc : PE X c tc) (hd : PE X d td)
    (hm : lastMarks [op, op', op2] [b, c, d] = false := by with_unfolding_all rfl) : PE X (.Compare a [op, op', op2] [b, c, d] pos) (tCh3 r r' r2 ta tb tc td) := by
  refine ⟨fun pins s σ H Q I h => ?_⟩
  refine Compare_chain (thn (ha.run pins s σ H _ I h) fun v s1 ⟨x, H1, I1, r1, q1⟩ => chain_link (thn (hb.run pins s1 σ H1 _ I1 q1) fun u s2 ⟨y, H2, I2, r2', q2⟩ =>
    thn (ho pins s2 σ H2 x y v u _ I2 r1 r2' q2) fun e s3 ⟨z, H3, I3, r3, k, ez, q3⟩ => ?_)) hm
  subst ez
  cases r3
  refine wpAny_truthy_bool ?_
  cases k with
  | false => exact ite_ff ⟨.bl false, H3, I3, rfl, q3⟩
  | true =>
    refine ite_tt (chain_link (thn (hc.run pins s3 σ H3 _ I3 q3) fun u2 s4 ⟨z4, H4, I4, r4, q4⟩ => thn (ho' pins s4 σ H4 y z4 u u2 _ I4 r2' r4 q4) fun e5 s5 ⟨z5, H5, I5, r5, k5, ez5, q5⟩ => ?_))
    subst ez5
    cases r5
    refine wpAny_truthy_bool ?_
    cases k5 with
    | false => exact ite_ff ⟨.bl false, H5, I5, rfl, q5⟩
    | true => exact ite_tt (chain_last (thn (hd.run pins s5 σ H5 _ I5 q5) fun u6 s6 ⟨z6, H6, I6, r6, q6⟩ => ho2 pins s6 σ H6 z4 z6 u2 u6 Q I6 r4 r6 q6))
theorem pt_chain3 (ho : OpR X (compareOp op) r) (ho' : OpR X (compareOp op') r') (ho2 : OpR X (compareOp op2) r2) (ha : PE X a ta) (hb : PE X b tb) (hc : PE X c tc) (hd : PE X d td)
    (hm : lastMarks [op, op', op2] [b, c, d] = false := by with_unfolding_all rfl) : PT X (.Compare a [op, op', op2] [b, c, d] pos) (tTest (tCh3 r r' r2 ta tb tc td)) := by
  refine ⟨fun pins s σ H Q I h => ?_⟩
  refine isTrue_chain (thn (ha.run pins s σ H _ I h) fun v s1 ⟨x, H1, I1, r1, q1⟩ => test_link (thn (hb.run pins s1 σ H1 _ I1 q1) fun u s2 ⟨y, H2, I2, r2', q2⟩ =>
    thn (ho pins s2 σ H2 x y v u _ I2 r1 r2' q2) fun e s3 ⟨z, H3, I3, r3, k, ez, q3⟩ => ?_)) hm
  subst ez
  cases r3
  refine wpAny_truthy_bool ?_
  cases k with
  | false =>
    obtain ⟨k', e', q'⟩ := q3
    cases e'
    exact ite_ff ⟨H3, I3, q'⟩
  | true =>
    refine ite_tt (test_link (thn (hc.run pins s3 σ H3 _ I3 q3) fun u2 s4 ⟨z4, H4, I4, r4, q4⟩ => thn (ho' pins s4 σ H4 y z4 u u2 _ I4 r2' r4 q4) fun e5 s5 ⟨z5, H5, I5, r5, k5, ez5, q5⟩ => ?_))
    subst ez5
    cases r5
    refine wpAny_truthy_bool ?_
    cases k5 with
    | false =>
      obtain ⟨k', e', q'⟩ := q5
      cases e'
      exact ite_ff ⟨H5, I5, q'⟩
    | true =>
      refine ite_tt (test_last (thn (hd.run pins s5 σ H5 _ I5 q5) fun u6 s6 ⟨z6, H6, I6, r6, q6⟩ => thn (ho2 pins s6 σ H6 z4 z6 u2 u6 _ I6 r4 r6 q6) fun e7 s7 ⟨z7, H7, I7, r7, k7, ez7, q7⟩ => ?_))
      subst ez7
      cases r7
      exact wpAny_truthy_bool ⟨H7, I7, q7⟩
end
end L2
namespace L2
open PySem PySem.Spec PyProof.Rows
def numV : V → Bool | .int _ => true | _ => false
section
variable {K : PySem.W.Frag} {σ : St} {H : Hp} {p : Addr} {xs : List V} {te : TE} {tt : TT} {j : Nat} {vs : List Nat} {Q : VK} {v : V} {d : PyData}
theorem num_dp (h : Dp K H v d) : (isIntD d && !isBoolD d) = numV v := by cases h <;> rfl
theorem non_dp (h : Dp K H v d) : decide (v = .non) = isNoneD d := by cases h <;> simp [isNoneD]
/-- [f(x) for x in xs if b(x)] over a list or a tuple wherever it stands, what is tested and made only adding to the heap -/
theorem lc_sqG {Qd : Addr → Hp → Prop} {f : V → V} {b : V → Bool} (hx : SqL K H p xs ∨ SqT K H p xs) (hz : xs.length < sizeLine) (hw : ∀ x, wipe ((wipe σ vs).set j (some x)) vs = wipe σ vs)
    (ht : ∀ x ∈ xs, ∀ H', Ext H H' → ∀ Q : Bool → Hp → Prop, (∀ H'', Ext H' H'' → Q (b x) H'') → tt ((wipe σ vs).set j (some x)) H' Q)
    (he : ∀ x ∈ xs, b x = true → ∀ H', Ext H H' → ∀ Q : VK, (∀ H'', Ext H' H'' → Q (f x) H'') → te ((wipe σ vs).set j (some x)) H' Q)
    (q : ∀ D H', H D = none → Ext H H' → H' D = some (.lst ((xs.filter b).map f)) → Qd D H') :
    ((∃ xs, SqL K H p xs) ∧ (fun J H1 => ∀ D, H1 D = none → ∃ W : Nat → Nat → Hp → Prop, (∃ m, W 0 m (upd H1 D (.lst []))) ∧ ∀ i m H, W i m H →
      (J.stop i H ∧ Qd D H) ∨ (J.go i H ∧ ∃ Nx : Hp → Prop, (∀ H', Nx H' → ∃ m', m' < m ∧ W (i + 1) m' H') ∧ ∀ x H', J.yld i H x H' → gName j x (wipe σ vs) H' fun σ2 H2 => wipe σ2 vs = wipe σ vs ∧ tt σ2 H2 fun b H3 =>
        if b = true then te σ2 H3 fun y H4 => ∃ acc, H4 D = some (.lst acc) ∧ acc.length < sizeLine ∧ Nx (upd H4 D (.lst (acc ++ [y]))) else Nx H3)) (Itl K p) H) ∨
    ((∃ xs, SqT K H p xs) ∧ (fun J H1 => ∀ D, H1 D = none → ∃ W : Nat → Nat → Hp → Prop, (∃ m, W 0 m (upd H1 D (.lst []))) ∧ ∀ i m H, W i m H →
      (J.stop i H ∧ Qd D H) ∨ (J.go i H ∧ ∃ Nx : Hp → Prop, (∀ H', Nx H' → ∃ m', m' < m ∧ W (i + 1) m' H') ∧ ∀ x H', J.yld i H x H' → gName j x (wipe σ vs) H' fun σ2 H2 => wipe σ2 vs = wipe σ vs ∧ tt σ2 H2 fun b H3 =>
        if b = true then te σ2 H3 fun y H4 => ∃ acc, H4 D = some (.lst acc) ∧ acc.length < sizeLine ∧ Nx (upd H4 D (.lst (acc ++ [y]))) else Nx H3)) (Itt K p) H) := by
  have turn : ∀ (D : Addr), H D = none → ∀ i x H', xs[i]? = some x → (Ext H H' ∧ H' D = some (.lst (((xs.take i).filter b).map f))) → gName j x (wipe σ vs) H' fun σ2 H2 => wipe σ2 vs = wipe σ vs ∧ tt σ2 H2 fun b' H3 =>
      if b' = true then te σ2 H3 fun y H4 => ∃ acc, H4 D = some (.lst acc) ∧ acc.length < sizeLine ∧ (Ext H (upd H4 D (.lst (acc ++ [y]))) ∧ upd H4 D (.lst (acc ++ [y])) D = some (.lst (((xs.take (i + 1)).filter b).map f))) else (Ext H H3 ∧ H3 D = some (.lst (((xs.take (i + 1)).filter b).map f))) := by
    intro D hD i x H' hi pv
    obtain ⟨e, hl⟩ := pv
    have hm : x ∈ xs := List.mem_of_getElem? hi
    refine ⟨hw x, ht x hm H' e _ fun H3 e3 => ?_⟩
    have hl3 : H3 D = some (.lst (((xs.take i).filter b).map f)) := e3 _ _ hl
    cases hb : b x with
    | true =>
      refine iteT (he x hm hb H3 (e.trans e3) _ fun H4 e4 => ⟨_, e4 _ _ hl3, ?_, ext_mut ((e.trans e3).trans e4) hD, ?_⟩)
      · rw [List.length_map]
        refine Nat.lt_of_le_of_lt (Nat.le_trans (List.length_filter_le _ _) ?_) hz
        exact List.length_take_le' _ _
      · rw [upd_same, take_snoc hi, List.filter_append, List.map_append]
        simp [hb]
    | false =>
      refine iteF ⟨e.trans e3, ?_⟩
      rw [hl3, take_snoc hi, List.filter_append, List.map_append]
      simp [hb]
  have fin : ∀ D, H D = none → ∀ H', (Ext H H' ∧ H' D = some (.lst (((xs.take xs.length).filter b).map f))) → Qd D H' := fun D hD H' pv => by
    rw [List.take_length] at pv
    exact q D H' hD pv.1 pv.2
  rcases hx with hx | hx
  · refine .inl ⟨⟨xs, hx⟩, fun D hD => lc_list (xs := xs) (fun i H' => Ext H H' ∧ H' D = some (.lst (((xs.take i).filter b).map f))) ⟨Ext.upd hD, upd_same⟩ (fun i H' _ pv => hx.ext pv.1) (fun i x H' hi pv => turn D hD i x H' hi pv) (fun H' pv => fin D hD H' pv)⟩
  · refine .inr ⟨⟨xs, hx⟩, fun D hD => lc_tup (xs := xs) (fun i H' => Ext H H' ∧ H' D = some (.lst (((xs.take i).filter b).map f))) ⟨Ext.upd hD, upd_same⟩ (fun i H' _ pv => hx.ext pv.1) (fun i x H' hi pv => turn D hD i x H' hi pv) (fun H' pv => fin D hD H' pv)⟩
end
end L2

set_option Elab.async false
set_option maxRecDepth 100000
set_option maxHeartbeats 4000000
namespace L2
open PySem PySem.Spec PyProof.Rows
section
variable {X : Cx} {m : Str} {k : Nat} {ps : List Str} {sp : Sp} {e o : Expr} {es : List Expr} {t : TA} {ta : TE} {pos apos : Pos} {C : Addr} {W : WX}
/-- o.m(e, ..) that may raise; W is wished for what it raises -/
theorem pe_ownMS {pl : Sem Bool} (O : OwnM X.prog X.w X.K X.mg X.base (L2.CX X.prog X.w) C m k ps sp) (he : PE X o ta) (c : Cls X.K C) (hr : Room k X.A) (tk : Takes X W) (ha : PA X (e :: es) t)
    (hst : starEach (e :: es) X.env = (false, eval e X.env) :: starEach es X.env := by rfl) (hpl : (backTo pos (starEach es X.env)).any (·.1) = false := by rfl)
    (ht : eval (.Call (.Attribute o m apos) (e :: es) [] pos) X.env = (do
      let ov ← eval o X.env
      standAt apos.atName
      let (f, first) ← holding [ov] (getMethod ov m pl)
      callWith pos f first (backTo pos (starEach (e :: es) X.env)) (backToKw pos (keywordEach [] X.env))) := by rfl) :
    PE X (.Call (.Attribute o m apos) (e :: es) [] pos) (tMethSD C m sp [] (WE W) ta t) := by
  obtain ⟨f, fd, F, M, _, hb⟩ := O.ex
  exact pe_methSD he c M F hr hb .nil (fun σ => passAt tk σ) ha hst hpl ht
theorem PE.imp {ex : Expr} {t1 t2 : TE} (h : PE X ex t1) (i : ∀ σ H Q, t2 σ H Q → t1 σ H Q) : PE X ex t2 := ⟨fun pins s σ H Q I z => h.run pins s σ H Q I (i σ H Q z)⟩
end
end L2

set_option Elab.async false
set_option linter.all false
set_option maxRecDepth 100000
set_option maxHeartbeats 4000000
/-! tuples of own objects, compared by their own ==, whichever the answer -/
namespace GQ
open PySem PySem.SeqAt
open AutoSeq1 (wpAny_loadPart')
open MeetsSeq MeetsSeq2 MeetsSeq3 SeqRoads2
section
variable {prog : Program} {w : World} {A : Around} {R : Result → Shared → Prop}
/-- the places one by one: I goes on, J at the first two that differ -/
theorem tup_eqB (la lb : Addr) (xs ys : Array Value) (n n2 : Nat) (dd dd2 : Option Addr) (sl sl2 : Array (Option Value)) (hsz : xs.size = ys.size) (I : Nat → Shared → Prop) (J : Shared → Prop)
    (turn : ∀ i (h1 : i < xs.size) (h2 : i < ys.size) s, I i s → wpAny (model prog w) A.in1 (eqBool xs[i] ys[i]) (fun r s' => (r = true ∧ I (i + 1) s') ∨ (r = false ∧ J s')) (fun e s' => R (.error e) s') s)
    (finT : ∀ s, I xs.size s → R (.ok (.ret (.bool true))) s) (finF : ∀ s, J s → R (.ok (.ret (.bool false))) s) {s : Shared}
    (hla : s.heap.get? la = some { cls := .type "tuple", dict := dd, data := .seq xs n, slots := sl }) (hlb : s.heap.get? lb = some { cls := .type "tuple", dict := dd2, data := .seq ys n2, slots := sl2 }) (h : I 0 s) :
    wpAny (model prog w) A.in1 (Builtin.«tuple.__eq__» ⟨[.ref la, .ref lb], []⟩) (FinOf prog w A R) (fun e s' => R (.error e) s') s := by
  have f2 := AutoSeq1.sub_tuple_tuple
  have hZ : (xs.toList.zip ys.toList).length = xs.size := by simp [hsz]
  have h0 := h
  obtain ⟨hp, g, d, tk, os⟩ := s
  wp_walk using wpAny_loadPart' hla, wpAny_loadPart' hlb, wpAny_forIn_list _ (fun rest b s' => b.1 = none ∧ ∃ i, rest = (xs.toList.zip ys.toList).drop i ∧ i ≤ xs.size ∧ I i s') _
  case turn =>
    rintro ⟨y, x⟩ rest b s' ⟨hb', i, hz, hi, hI⟩
    have hlt : i < (xs.toList.zip ys.toList).length := by
      rcases Nat.lt_or_ge i (xs.toList.zip ys.toList).length with h' | h'
      · exact h'
      · rw [List.drop_of_length_le h'] at hz
        cases hz
    have h1 : i < xs.size := hZ ▸ hlt
    have h2 : i < ys.size := hsz ▸ h1
    rw [List.drop_eq_getElem_cons hlt] at hz
    injection hz with hyx hrest
    have hy : y = xs[i] := by
      have q := congrArg Prod.fst hyx
      simpa using q
    have hx : x = ys[i] := by
      have q := congrArg Prod.snd hyx
      simpa using q
    subst hy hx
    refine wpAny_bind (wpAny_mono (turn i h1 h2 s' hI) (fun r s2 q2 => ?_) fun _ _ x => x)
    rcases q2 with ⟨hr, q2⟩ | ⟨hr, q2⟩
    · subst hr
      wp_walk
      exact ⟨rfl, i + 1, hrest, h1, q2⟩
    · subst hr
      have hR : R (.ok (.ret (.bool false))) s2 := finF s2 q2
      wp_walk
      exact hR
  case fin =>
    rintro ⟨b1, b2⟩ s' ⟨hb', i, hz, hi, hI⟩
    simp only at hb'
    subst hb'
    have hge : xs.size ≤ i := by
      rcases Nat.lt_or_ge i (xs.toList.zip ys.toList).length with h' | h'
      · rw [List.drop_eq_getElem_cons h'] at hz
        cases hz
      · exact hZ ▸ h'
    have hi' : i = xs.size := by omega
    have hR : R (.ok (.ret (.bool true))) s' := finT s' (hi' ▸ hI)
    wp_walk
    simpa [Builtin.Tuple.tupleCompareSizes, hsz] using hR
  case h =>
    exact ⟨rfl, 0, rfl, Nat.zero_le _, h0⟩
/-- the same for != -/
theorem tup_neB (la lb : Addr) (xs ys : Array Value) (n n2 : Nat) (dd dd2 : Option Addr) (sl sl2 : Array (Option Value)) (hsz : xs.size = ys.size) (I : Nat → Shared → Prop) (J : Shared → Prop)
    (turn : ∀ i (h1 : i < xs.size) (h2 : i < ys.size) s, I i s → wpAny (model prog w) A.in1 (eqBool xs[i] ys[i]) (fun r s' => (r = true ∧ I (i + 1) s') ∨ (r = false ∧ J s')) (fun e s' => R (.error e) s') s)
    (finT : ∀ s, I xs.size s → R (.ok (.ret (.bool false))) s) (finF : ∀ s, J s → R (.ok (.ret (.bool true))) s) {s : Shared}
    (hla : s.heap.get? la = some { cls := .type "tuple", dict := dd, data := .seq xs n, slots := sl }) (hlb : s.heap.get? lb = some { cls := .type "tuple", dict := dd2, data := .seq ys n2, slots := sl2 }) (h : I 0 s) :
    wpAny (model prog w) A.in1 (Builtin.«tuple.__ne__» ⟨[.ref la, .ref lb], []⟩) (FinOf prog w A R) (fun e s' => R (.error e) s') s := by
  have f2 := AutoSeq1.sub_tuple_tuple
  have hZ : (xs.toList.zip ys.toList).length = xs.size := by simp [hsz]
  have h0 := h
  obtain ⟨hp, g, d, tk, os⟩ := s
  wp_walk using wpAny_loadPart' hla, wpAny_loadPart' hlb, wpAny_forIn_list _ (fun rest b s' => b.1 = none ∧ ∃ i, rest = (xs.toList.zip ys.toList).drop i ∧ i ≤ xs.size ∧ I i s') _
  case turn =>
    rintro ⟨y, x⟩ rest b s' ⟨hb', i, hz, hi, hI⟩
    have hlt : i < (xs.toList.zip ys.toList).length := by
      rcases Nat.lt_or_ge i (xs.toList.zip ys.toList).length with h' | h'
      · exact h'
      · rw [List.drop_of_length_le h'] at hz
        cases hz
    have h1 : i < xs.size := hZ ▸ hlt
    have h2 : i < ys.size := hsz ▸ h1
    rw [List.drop_eq_getElem_cons hlt] at hz
    injection hz with hyx hrest
    have hy : y = xs[i] := by
      have q := congrArg Prod.fst hyx
      simpa using q
    have hx : x = ys[i] := by
      have q := congrArg Prod.snd hyx
      simpa using q
    subst hy hx
    refine wpAny_bind (wpAny_mono (turn i h1 h2 s' hI) (fun r s2 q2 => ?_) fun _ _ x => x)
    rcases q2 with ⟨hr, q2⟩ | ⟨hr, q2⟩
    · subst hr
      wp_walk
      exact ⟨rfl, i + 1, hrest, h1, q2⟩
    · subst hr
      have hR : R (.ok (.ret (.bool true))) s2 := finF s2 q2
      wp_walk
      exact hR
  case fin =>
    rintro ⟨b1, b2⟩ s' ⟨hb', i, hz, hi, hI⟩
    simp only at hb'
    subst hb'
    have hge : xs.size ≤ i := by
      rcases Nat.lt_or_ge i (xs.toList.zip ys.toList).length with h' | h'
      · rw [List.drop_eq_getElem_cons h'] at hz
        cases hz
      · exact hZ ▸ h'
    have hi' : i = xs.size := by omega
    have hR : R (.ok (.ret (.bool false))) s' := finT s' (hi' ▸ hI)
    wp_walk
    simpa [Builtin.Tuple.tupleCompareSizes, bne, hsz] using hR
  case h =>
    exact ⟨rfl, 0, rfl, Nat.zero_le _, h0⟩
end
end GQ
namespace GQ
open PySem PySem.SeqAt
section
variable {prog : Program} {w : World} {A : Around} {E : Value → Shared → Prop} {s : Shared}
theorem rc_tupB {la lb : Addr} {xs ys : Array Value} {Q : Value → Shared → Prop} (hsz : xs.size = ys.size) (hu : A.units < cLine) (I : Nat → Shared → Prop) (J : Shared → Prop) (hla : s.heap.IsTuple la xs) (hlb : s.heap.IsTuple lb ys)
    (turn : ∀ i (h1 : i < xs.size) (h2 : i < ys.size) s, I i s → wpAny (model prog w) A.in1 (eqBool xs[i] ys[i]) (fun r s' => (r = true ∧ I (i + 1) s') ∨ (r = false ∧ J s')) E s)
    (finT : ∀ s, I xs.size s → Q (.bool true) s) (finF : ∀ s, J s → Q (.bool false) s) (h : I 0 s) : wpAny (model prog w) A (richCompare .Eq (.ref la) (.ref lb)) Q E s := by
  obtain ⟨⟨cls, dd, data, sl⟩, ho, hc, n, hd⟩ := id hla
  obtain ⟨⟨cls2, dd2, data2, sl2⟩, ho2, hc2, n2, hd2⟩ := id hlb
  simp only at hc hd hc2 hd2
  subst hc hd hc2 hd2
  refine wpAny_richCompare_same_room (op := .Eq) ⟨_, ho, rfl⟩ ⟨_, ho2, rfl⟩ F.slot_tuple_eq (call_here F.slot_tuple_eq ⟨_, ho, rfl⟩ F.entry_tuple_eq (F.args_tuple_eq_2 _ _) ?_) hu
  exact tup_eqB (R := wants (fun v s' => v ≠ .notImplemented ∧ Q v s') E) la lb xs ys n n2 dd dd2 sl sl2 hsz I J turn (fun s' q => ⟨(fun x => nomatch x), finT s' q⟩) (fun s' q => ⟨(fun x => nomatch x), finF s' q⟩) ho ho2 h
theorem rc_tupNB {la lb : Addr} {xs ys : Array Value} {Q : Value → Shared → Prop} (hsz : xs.size = ys.size) (hu : A.units < cLine) (I : Nat → Shared → Prop) (J : Shared → Prop) (hla : s.heap.IsTuple la xs) (hlb : s.heap.IsTuple lb ys)
    (turn : ∀ i (h1 : i < xs.size) (h2 : i < ys.size) s, I i s → wpAny (model prog w) A.in1 (eqBool xs[i] ys[i]) (fun r s' => (r = true ∧ I (i + 1) s') ∨ (r = false ∧ J s')) E s)
    (finT : ∀ s, I xs.size s → Q (.bool false) s) (finF : ∀ s, J s → Q (.bool true) s) (h : I 0 s) : wpAny (model prog w) A (richCompare .NotEq (.ref la) (.ref lb)) Q E s := by
  obtain ⟨⟨cls, dd, data, sl⟩, ho, hc, n, hd⟩ := id hla
  obtain ⟨⟨cls2, dd2, data2, sl2⟩, ho2, hc2, n2, hd2⟩ := id hlb
  simp only at hc hd hc2 hd2
  subst hc hd hc2 hd2
  refine wpAny_richCompare_same_room (op := .NotEq) ⟨_, ho, rfl⟩ ⟨_, ho2, rfl⟩ F.slot_tuple_ne (call_here F.slot_tuple_ne ⟨_, ho, rfl⟩ F.entry_tuple_ne (F.args_tuple_ne_2 _ _) ?_) hu
  exact tup_neB (R := wants (fun v s' => v ≠ .notImplemented ∧ Q v s') E) la lb xs ys n n2 dd dd2 sl sl2 hsz I J turn (fun s' q => ⟨(fun x => nomatch x), finT s' q⟩) (fun s' q => ⟨(fun x => nomatch x), finF s' q⟩) ho ho2 h
end
end GQ
namespace L2
open PySem PySem.Spec PyProof.Rows
/-- how two values compare, by the abstract heap -/
abbrev EqvB := V → V → Hp → Bool → Prop
def MonB (D : EqvB) : Prop := ∀ x y H H' k, Ext H H' → D x y H k → D x y H' k
def EqB (X : Cx) (n : Nat) (D : EqvB) : Prop :=
  ∀ (A : Around) (pins : List (Addr × Obj)) (s : Shared) (σ : St) (H : Hp) (x y : V) (u v : Value) (k : Bool), Sub X n A → Inv X pins σ H s → RelV x u → RelV y v → D x y H k →
    wpAny (model X.prog X.w) A (eqBool u v) (fun r s' => r = k ∧ ∃ H', Inv X pins σ H' s' ∧ Ext H H') X.xe s
def RcB (X : Cx) (n : Nat) (D : EqvB) : Prop :=
  ∀ (A : Around) (pins : List (Addr × Obj)) (s : Shared) (σ : St) (H : Hp) (x y : V) (u v : Value) (k : Bool), Sub X n A → Inv X pins σ H s → RelV x u → RelV y v → D x y H k →
    wpAny (model X.prog X.w) A (richCompare .Eq u v) (fun r s' => r = .bool k ∧ ∃ H', Inv X pins σ H' s' ∧ Ext H H') X.xe s
section
variable {X : Cx} {n : Nat} {D : EqvB}
/-- instances of the class at C -/
def DInsB (C : Addr) (R : Addr → Addr → Hp → Bool → Prop) : EqvB := fun x y H k => ∃ a b dx dy fs gs, x = .ref a ∧ y = .ref b ∧ H a = some (.ins C dx fs) ∧ H b = some (.ins C dy gs) ∧ R a b H k
def spEqB (R : Addr → Addr → Hp → Bool → Prop) : Sp := fun vs H Q _ => ∃ a b k, vs = [.ref a, .ref b] ∧ R a b H k ∧ ∀ H', Ext H H' → Q (.bl k) H'
theorem rcB_ins {CX : CXT} {C f : Addr} {fd : FuncData} {ps : List Str} {R : Addr → Addr → Hp → Bool → Prop} {E : XK} (F : FnOk X.prog X.w X.K X.mg X.base CX n f fd ps (spEqB R))
    (hs : PySem.W.findIn X.K (.ref C) "__eq__" = some (some (.ref f))) (hf : PySem.W.isFn X.K (.ref f) = true) (hb : Binds X.K fd ps []) (hx : Passes CX X E) : RcB X n (DInsB C R) := by
  intro A pins s σ H x y u v k sb I rx ry d
  obtain ⟨a, b, dx, dy, fs, gs, rfl, rfl, ha, hb', hr⟩ := d
  cases rx
  cases ry
  obtain ⟨mA, J, _⟩ := ins_get I.hok ha
  obtain ⟨mB, J', _⟩ := ins_get I.hok hb'
  obtain ⟨od, J, _⟩ := J.look
  obtain ⟨od', J', _⟩ := J'.look
  obtain ⟨m, hF⟩ := I.fr
  refine PySem.W.cmp_K (op := .Eq) (tb := .ref C) sb.room.units0 hF I.ok.mod.kin J J'.type (by simp [PySem.W.notFirst]) hs hf ?_
  have hsp : spEqB R [.ref a, .ref b] H (fun v H' => v = .bl k ∧ Ext H H') E := ⟨a, b, k, rfl, hr, fun H' e => ⟨rfl, e⟩⟩
  have e1 := I.env0
  have e0 : Env0 X.prog X.w X.K X.mg X.base A X.stack s H := ⟨by rw [sb.fr]; exact e1.frames, e1.mod, e1.bs, e1.bsz, e1.funs, e1.frf, e1.hok, e1.bare⟩
  have hl := F.len _ _ _ _ hsp
  have bd := hb s [.ref a, .ref b] I.kIn (by simpa using hl)
  have bd' : BindsTo s fd ⟨[.ref a, .ref b], []⟩ (ps.zip [.ref a, .ref b]) := by simpa using bd
  refine wpAny_call (codeAny_mono (F.run A X.stack s H ⟨[.ref a, .ref b], []⟩ [.ref a, .ref b] [.ref a, .ref b] _ E sb.room e0 bd' (.cons rfl (.cons rfl .nil)) hsp) fun r s' hq => ?_)
  match r, hq with
  | .error e, hq => exact hx pins σ H s e s' I hq
  | .ok (.ret z), hq =>
    obtain ⟨zv, H', I', rz, ez, ex⟩ := I.after hq
    subst ez
    cases rz
    exact ⟨rfl, H', I', ex⟩
  | .ok .next, hq => exact hq.elim
  | .ok .brk, hq => exact hq.elim
  | .ok .cont, hq => exact hq.elim
/-- within a tuple: the same object is equal to itself -/
theorem RcB.eqB (h : RcB X n D) (hr : ∀ x y H k, D x y H k → ∃ a b, x = .ref a ∧ y = .ref b ∧ (a = b → k = true)) : EqB X n D := by
  intro A pins s σ H x y u v k sb I rx ry d
  obtain ⟨a, b, rfl, rfl, hk⟩ := hr _ _ _ _ d
  cases rx
  cases ry
  by_cases hab : a = b
  · have hk' := hk hab
    subst hab hk'
    exact SeqAt.EqAt.same (A := A) (s := s) (.ref a) X.prog X.w X.xe _ ⟨rfl, H, I, Ext.rfl'⟩
  · refine GQ.eqBool_refG hab (wpAny_mono (h A pins s σ H (.ref a) (.ref b) _ _ k sb I rfl rfl d) (fun r s' q => ?_) fun _ _ x => x)
    obtain ⟨hr', q⟩ := q
    exact ⟨k, hr', rfl, q⟩
/-- tuples of one length, place by place; ks the answers -/
def DTupB (K : PySem.W.Frag) (D : EqvB) : EqvB := fun x y H k => ∃ (a b : Addr) (xs ys : List V) (ks : List Bool), x = .ref a ∧ y = .ref b ∧ SqT K H a xs ∧ SqT K H b ys ∧ xs.length = ys.length ∧ ks.length = xs.length ∧
  (∀ (i : Nat) x y c, xs[i]? = some x → ys[i]? = some y → ks[i]? = some c → D x y H c) ∧ k = ks.all id
theorem all_take {ks : List Bool} {i : Nat} (h : ∀ j, j < i → ks[j]? = some true) (hi : ks.length ≤ i) : ks.all id = true := by
  rw [List.all_eq_true]
  intro c hc
  obtain ⟨j, hj⟩ := List.mem_iff_getElem?.mp hc
  have hjl := (List.getElem?_eq_some_iff.mp hj).1
  have q := h j (Nat.lt_of_lt_of_le hjl hi)
  rw [hj] at q
  cases q
  rfl
theorem rcB_tup (hD : MonB D) (h : EqB X n D) : RcB X (n + 1) (DTupB X.K D) := by
  intro A pins s σ H x y u v k sb I rx ry d
  obtain ⟨a, b, xs, ys, ks, rfl, rfl, ha, hb, hlen, hks, hp, rfl⟩ := d
  cases rx
  cases ry
  obtain ⟨its, r, e, z⟩ := I.tuple ha
  obtain ⟨its2, r2, e2, z2⟩ := I.tuple hb
  have l1 := r.length
  have l2 := r2.length
  have hsz : its.toArray.size = its2.toArray.size := by rw [List.size_toArray, List.size_toArray, ← l1, ← l2]; exact hlen
  refine GQ.rc_tupB hsz sb.room.units0 (fun i s' => (∃ H', Inv X pins σ H' s' ∧ Ext H H') ∧ ∀ j, j < i → ks[j]? = some true) (fun s' => (∃ H', Inv X pins σ H' s' ∧ Ext H H') ∧ ks.all id = false) e e2 (fun i h1 h2 s' q => ?_) (fun s' q => ?_) (fun s' q => ?_) ⟨⟨H, I, Ext.rfl'⟩, fun j hj => absurd hj (Nat.not_lt_zero _)⟩
  · obtain ⟨⟨H1, I1, e1⟩, hk⟩ := q
    have h1' : i < its.length := by simpa using h1
    have h2' : i < its2.length := by simpa using h2
    have g1 : its[i]? = some its.toArray[i] := by rw [List.getElem?_eq_getElem h1'] <;> simp
    have g2 : its2[i]? = some its2.toArray[i] := by rw [List.getElem?_eq_getElem h2'] <;> simp
    have k1 : i < xs.length := by omega
    have k2 : i < ys.length := by omega
    have k3 : i < ks.length := by omega
    obtain ⟨uu, hu, ru⟩ := r.get (List.getElem?_eq_getElem k1)
    obtain ⟨vv, hv, rv⟩ := r2.get (List.getElem?_eq_getElem k2)
    rw [g1] at hu
    rw [g2] at hv
    rw [Option.some.inj hu, Option.some.inj hv]
    refine wpAny_mono (h A.in1 pins s' σ H1 _ _ uu vv ks[i] sb.in1 I1 ru rv (hD _ _ _ _ _ e1 (hp i _ _ _ (List.getElem?_eq_getElem k1) (List.getElem?_eq_getElem k2) (List.getElem?_eq_getElem k3)))) (fun rr s2 q2 => ?_) fun _ _ x => x
    obtain ⟨hr, H2, I2, e2'⟩ := q2
    have hki : ks[i]? = some rr := by rw [hr]; exact List.getElem?_eq_getElem k3
    cases rr with
    | true =>
      refine .inl ⟨rfl, ⟨H2, I2, e1.trans e2'⟩, fun j hj => ?_⟩
      rcases Nat.lt_succ_iff_lt_or_eq.mp hj with hj | rfl
      · exact hk j hj
      · exact hki
    | false =>
      refine .inr ⟨rfl, ⟨H2, I2, e1.trans e2'⟩, ?_⟩
      rw [List.all_eq_false]
      exact ⟨false, List.mem_of_getElem? hki, by decide⟩
  · obtain ⟨q1, hk⟩ := q
    exact ⟨by rw [all_take hk (by simp; omega)], q1⟩
  · obtain ⟨q1, hk⟩ := q
    exact ⟨by rw [hk], q1⟩
/-- the same for !=, told by what == would say -/
def RcNB (X : Cx) (n : Nat) (D : EqvB) : Prop :=
  ∀ (A : Around) (pins : List (Addr × Obj)) (s : Shared) (σ : St) (H : Hp) (x y : V) (u v : Value) (k : Bool), Sub X n A → Inv X pins σ H s → RelV x u → RelV y v → D x y H k →
    wpAny (model X.prog X.w) A (richCompare .NotEq u v) (fun r s' => r = .bool (!k) ∧ ∃ H', Inv X pins σ H' s' ∧ Ext H H') X.xe s
theorem rcNB_tup (hD : MonB D) (h : EqB X n D) : RcNB X (n + 1) (DTupB X.K D) := by
  intro A pins s σ H x y u v k sb I rx ry d
  obtain ⟨a, b, xs, ys, ks, rfl, rfl, ha, hb, hlen, hks, hp, rfl⟩ := d
  cases rx
  cases ry
  obtain ⟨its, r, e, z⟩ := I.tuple ha
  obtain ⟨its2, r2, e2, z2⟩ := I.tuple hb
  have l1 := r.length
  have l2 := r2.length
  have hsz : its.toArray.size = its2.toArray.size := by rw [List.size_toArray, List.size_toArray, ← l1, ← l2]; exact hlen
  refine GQ.rc_tupNB hsz sb.room.units0 (fun i s' => (∃ H', Inv X pins σ H' s' ∧ Ext H H') ∧ ∀ j, j < i → ks[j]? = some true) (fun s' => (∃ H', Inv X pins σ H' s' ∧ Ext H H') ∧ ks.all id = false) e e2 (fun i h1 h2 s' q => ?_) (fun s' q => ?_) (fun s' q => ?_) ⟨⟨H, I, Ext.rfl'⟩, fun j hj => absurd hj (Nat.not_lt_zero _)⟩
  · obtain ⟨⟨H1, I1, e1⟩, hk⟩ := q
    have h1' : i < its.length := by simpa using h1
    have h2' : i < its2.length := by simpa using h2
    have g1 : its[i]? = some its.toArray[i] := by rw [List.getElem?_eq_getElem h1'] <;> simp
    have g2 : its2[i]? = some its2.toArray[i] := by rw [List.getElem?_eq_getElem h2'] <;> simp
    have k1 : i < xs.length := by omega
    have k2 : i < ys.length := by omega
    have k3 : i < ks.length := by omega
    obtain ⟨uu, hu, ru⟩ := r.get (List.getElem?_eq_getElem k1)
    obtain ⟨vv, hv, rv⟩ := r2.get (List.getElem?_eq_getElem k2)
    rw [g1] at hu
    rw [g2] at hv
    rw [Option.some.inj hu, Option.some.inj hv]
    refine wpAny_mono (h A.in1 pins s' σ H1 _ _ uu vv ks[i] sb.in1 I1 ru rv (hD _ _ _ _ _ e1 (hp i _ _ _ (List.getElem?_eq_getElem k1) (List.getElem?_eq_getElem k2) (List.getElem?_eq_getElem k3)))) (fun rr s2 q2 => ?_) fun _ _ x => x
    obtain ⟨hr, H2, I2, e2'⟩ := q2
    have hki : ks[i]? = some rr := by rw [hr]; exact List.getElem?_eq_getElem k3
    cases rr with
    | true =>
      refine .inl ⟨rfl, ⟨H2, I2, e1.trans e2'⟩, fun j hj => ?_⟩
      rcases Nat.lt_succ_iff_lt_or_eq.mp hj with hj | rfl
      · exact hk j hj
      · exact hki
    | false =>
      refine .inr ⟨rfl, ⟨H2, I2, e1.trans e2'⟩, ?_⟩
      rw [List.all_eq_false]
      exact ⟨false, List.mem_of_getElem? hki, by decide⟩
  · obtain ⟨q1, hk⟩ := q
    exact ⟨by rw [all_take hk (by simp; omega)]; rfl, q1⟩
  · obtain ⟨q1, hk⟩ := q
    exact ⟨by rw [hk]; rfl, q1⟩
/-- x == y, x != y as expressions -/
def rEqB (D : EqvB) : R2 := fun x y H Q => ∃ k, D x y H k ∧ ∀ H', Ext H H' → Q (.bl k) H'
def rNeB (D : EqvB) : R2 := fun x y H Q => ∃ k, D x y H k ∧ ∀ H', Ext H H' → Q (.bl (!k)) H'
theorem op_eqB (h : RcB X n D) (hr : Room n X.A) : OpR X (compareOp .Eq) (rEqB D) := by
  intro pins s σ H x y v u Q I rx ry hq
  obtain ⟨k, d, q⟩ := hq
  show wpAny (model X.prog X.w) X.A (richCompare .Eq v u) (EP X pins σ Q) X.xe s
  refine wpAny_mono (h X.A pins s σ H x y v u k ⟨hr, rfl⟩ I rx ry d) (fun r s' z => ?_) fun _ _ x => x
  obtain ⟨hr', H', I', e⟩ := z
  subst hr'
  exact ⟨.bl k, H', I', rfl, q H' e⟩
theorem op_neB (h : RcNB X n D) (hr : Room n X.A) : OpR X (compareOp .NotEq) (rNeB D) := by
  intro pins s σ H x y v u Q I rx ry hq
  obtain ⟨k, d, q⟩ := hq
  show wpAny (model X.prog X.w) X.A (richCompare .NotEq v u) (EP X pins σ Q) X.xe s
  refine wpAny_mono (h X.A pins s σ H x y v u k ⟨hr, rfl⟩ I rx ry d) (fun r s' z => ?_) fun _ _ x => x
  obtain ⟨hr', H', I', e⟩ := z
  subst hr'
  exact ⟨.bl (!k), H', I', rfl, q H' e⟩
end
end L2

set_option Elab.async false
set_option linter.all false
set_option maxRecDepth 100000
set_option maxHeartbeats 4000000
/-! except A as e: .. except B as e: ..; classes made with keyword-only parameters -/
namespace L2
open PySem PySem.Spec PyProof.Rows
abbrev SuT := Addr → Value → Option Addr → TS
/-- behind a suite the i-th slot is empty -/
def dropAt (i : Nat) (D : Ends) : Ends := { nx := fun g J => D.nx (g.set i none) J, rt := D.rt, bk := fun g J => D.bk (g.set i none) J, ct := fun g J => D.ct (g.set i none) J }
def wManyA (K : PySem.W.Frag) (Wo : WX) (D : Ends) : List (Value × Nat × SuT) → WX
  | [] => Wo
  | (c, i, ts) :: r => fun cl d g J => ∃ y, PySem.W.exmOne K cl c = some y ∧ (y = true → ∀ q, J q = none → ts q cl d (dropAt i D) (g.set i (some (.ref q))) J) ∧ (y = false → wManyA K Wo D r cl d g J)
inductive HdsA (X : Cx) : List ExceptHandler → List (Value × Nat × SuT) → Prop
  | nil : HdsA X [] []
  | cons {x n : Str} {c : Value} {i : Nat} {ts : SuT} {b0 : Stmt} {su : List Stmt} {np pp : Pos} {hds : List ExceptHandler} {l : List (Value × Nat × SuT)} (hi : X.N[i]? = some n) (hl : X.env.kindOf n = some .local) (hc : Names X x c)
      (hsu : ∀ (q : Addr) (oq : Obj) (cl : Value) (d : Option Addr) (pn : List (Addr × Obj)), Zc cl d oq → (∃ us, oq.data = .fields us) → PSs (X.suite q ((q, oq) :: pn)) (b0 :: su) (ts q cl d)) (r : HdsA X hds l) :
      HdsA X (.ExceptHandler (some (.Name x np)) (some n) (b0 :: su) pp :: hds) ((c, i, ts) :: l)
section
variable {X : Cx} {bd : List Stmt} {hd0 : ExceptHandler} {hds : List ExceptHandler} {l : List (Value × Nat × SuT)} {pos : Pos} {tb : WX → TS} {Wo : WX}
theorem ps_try_manyA (hs : X.stack = X.env :: X.outer) (hf : X.env.frame = some X.env.locals) (hN : X.N.Nodup) (tk : Takes X Wo)
    (hb : ∀ (W : WX) (pn : List (Addr × Obj)) (xe : Value → Shared → Prop), Takes (X.tr pn xe) W → PassesOwn (model X.prog X.w) X.A X.env xe → PSs (X.tr pn xe) bd (tb W))
    (hh : HdsA X (hd0 :: hds) l) : PS X (.Try bd (hd0 :: hds) [] [] pos) (fun D g J => tb (wManyA X.K Wo D l) D g J) := by
  refine ⟨fun pins s0 g0 J0 D I0 h => ?_⟩
  have kk := I0.ok
  have hfr : X.A.frames = some (X.env :: X.outer) := by rw [kk.frames, hs]
  refine wpAny_Try_except (wpAny_mono ((hb (wManyA X.K Wo D l) (X.pn ++ pins) (fun u t1 => wpAny (model X.prog X.w) X.A (noteFrame u X.env) (fun _ t2 => wpAny (model X.prog X.w) X.A (setFlight u none) (fun _ t3 =>
    wpAny (model X.prog X.w) X.A (handleBy u X.env (hd0 :: hds)) (SP X pins D) X.xe t3) X.xe t2) X.xe t1) (fun u t1 xx => ?_) PassesOwn.looking).run [] s0 g0 J0 D (I0.toTry _) h) (fun fl t1 hsp => ?_) (fun _ _ z => z))
  · obtain ⟨q, B, sI, pns, g1, J1, cl, d, rfl, K1, nb, up, sky, na, os, ag, wx⟩ := xx
    have V : Inv X pins g1 J1 sI := K1.ofTry kk
    have sky2 : Sky B (X.env :: X.outer) q (Zc cl d) X.env.locals t1.heap := by rw [← hs]; exact sky
    show wpAny (model X.prog X.w) X.A (noteFrame (.ref q) X.env) _ _ _
    refine Sky.land Zc.steady hfr hf sky2 fun h3 f3 u3 => ?_
    have V3 : Inv X pins g1 J1 { t1 with heap := h3 } := V.landed nb f3.1 (up.trans u3) os ag
    obtain ⟨o3, v3, e3, z3, d3⟩ := f3.there
    have apart : ∀ {hh : Heap} {o : Obj} {us : Array Value}, hh.FunFrames B (X.env :: X.outer) → hh.get? q = some o → o.data = .fields us → q ∉ frs (X.env :: X.outer) := fun {hh o us} ff e dd hm => by
      obtain ⟨_, o', e', hnf⟩ := ff.mem hm
      rw [e] at e'
      cases e'
      exact hnf _ dd
    have np := apart f3.2.2.1 e3 d3
    have nL : q ≠ X.env.locals := fun z => np (List.mem_filterMap.mpr ⟨X.env, List.mem_cons_self, by rw [hf, z]⟩)
    have nF : q ∉ X.fs := fun hm => by
      obtain ⟨e, he, r⟩ := List.mem_filterMap.mp hm
      exact np (List.mem_filterMap.mpr ⟨e, List.mem_cons_of_mem _ he, r⟩)
    have S3 := V3.suite e3 d3 na nL nF
    have go : ∀ {hz : List ExceptHandler} {lz : List (Value × Nat × SuT)}, HdsA X hz lz → wManyA X.K Wo D lz cl d g1 J1 → wpAny (model X.prog X.w) X.A (handleBy (.ref q) X.env hz) (SP X pins D) X.xe { t1 with heap := h3 } := by
      intro hz lz hk
      induction hk with
      | nil =>
        intro wz
        refine wpAny_handleBy_nil ?_
        obtain ⟨_, _, _, oq, us, TB, oT, ts2, he, hq, hdd, h1, hr⟩ := id f3
        unfold PySem.passOn
        refine wpAny_bind (wpAny_field he hdd h1 ?_)
        rw [if_neg (show ¬ ((Value.ref TB == Value.none) = true) by simp)]
        have fin : wpAny (model X.prog X.w) X.A (setFlight (.ref q) X.env.frame) (fun _ t4 => wpAny (model X.prog X.w) X.A (throw (.ref q) : Sem Flow) (SP X pins D) X.xe t4) X.xe { t1 with heap := h3 } := by
          rw [hf]
          refine HandSPX.setFlight_upZ f3 fun h4 hh4 up4 => wpAny_throw (tk _ _ ?_)
          exact ⟨q, B, sI, pins, g1, J1, cl, d, rfl, V, nb, (up.trans u3).trans up4, .inr (.inr (by rw [hs]; exact hh4)), na, os, ag, wz⟩
        first | exact wpAny_bind (wpAny_pure (wpAny_bind fin)) | exact wpAny_bind fin
      | @cons x n c i ts b0 su np pp hds2 l2 hi hl hc hsu r ih =>
        intro wz
        obtain ⟨y, hy, yes, no⟩ := wz
        refine wpAny_handleBy_cons (codeAny_handlers_test ?_) (by intro z; cases z)
        have LT : PySem.W.Looks (model X.prog X.w) h3 (typeOf (.ref q)) cl := fun A Q E s k r => wpAny_typeOf_ref (k _ _ e3) (by rw [z3.1]; exact r)
        have LM := PySem.W.exm_one (M := model X.prog X.w) (V3.kIn) LT hy
        have tst : ∀ {Q E : Value → Shared → Prop}, Q c { t1 with heap := h3 } → wpAny (model X.prog X.w) (X.A.mark (some (.ref q))) (eval (.Name x np) X.env) Q E { t1 with heap := h3 } := fun {Q E} z => by
          obtain ⟨hg, hdbg, hm | ⟨hm, hv, hnn⟩⟩ := hc
          · exact ld_glob (X := X.suite q ((q, o3) :: (X.pn ++ pins))) S3 hg hm z hdbg
          · exact ld_blt (X := X.suite q ((q, o3) :: (X.pn ++ pins))) S3 hg hm hv z hnn hdbg
        refine tst (LM.here ?_)
        cases y with
        | true =>
          refine codeAny_handlers_suite_as (HandSPX.lands_againZ f3 fun h4 f4 u4 => ?_)
          have V4 : Inv X pins g1 J1 { t1 with heap := h4 } := V.landed nb f4.1 ((up.trans u3).trans u4) os ag
          obtain ⟨o4, v4, e4, z4, d4⟩ := f4.there
          have S4 := V4.suite e4 d4 na nL nF
          have hloc : Loc X.env.scope n := .inl hl
          refine store_ok (X := X.suite q ((q, o4) :: (X.pn ++ pins))) (v := .ref q) S4 hN hi hloc rfl (fun t5 S5 => ?_) (.inr hl)
          refine wpAny_mono ((hsu q o4 cl d (X.pn ++ pins) z4 ⟨_, d4⟩).run [] t5 _ J1 _ S5 (yes rfl q na)) (fun fl t6 sp => ?_) (fun _ _ z => False.elim z)
          have ends : ∀ {g6 : St} {J6 : Hp} {Q : Shared → Prop}, Inv (X.suite q ((q, o4) :: (X.pn ++ pins))) [] g6 J6 t6 → (∀ t7, Inv X pins (g6.set i none) J6 t7 → Q t7) →
              wpAny (model X.prog X.w) X.A (do bindName X.env n .none; unbindBehindTheSuite X.env n pp) (fun _ t7 => Q t7) X.xe t6 := fun {g6 J6 Q} S6 hq => gone_ok (S6.unsuite kk) hN hi hl hq
          cases fl with
          | next =>
            obtain ⟨g6, J6, S6, r6⟩ := sp
            exact ends S6 fun t7 V7 => ⟨_, _, V7, r6⟩
          | brk =>
            obtain ⟨g6, J6, S6, r6⟩ := sp
            exact ends S6 fun t7 V7 => ⟨_, _, V7, r6⟩
          | cont =>
            obtain ⟨g6, J6, S6, r6⟩ := sp
            exact ends S6 fun t7 V7 => ⟨_, _, V7, r6⟩
          | ret u =>
            obtain ⟨w6, g6, J6, S6, r6, y6⟩ := sp
            exact ends S6 fun t7 V7 => ⟨_, _, _, V7, r6, y6⟩
        | false =>
          show wpAny _ X.A (handleBy (.ref q) X.env hds2) _ _ _
          exact ih (no rfl)
    exact go hh wx
  · cases fl with
    | next =>
      obtain ⟨g6, J6, V6, r⟩ := hsp
      exact wpAny_execs_nil ⟨g6, J6, V6.ofTry kk, r⟩
    | brk =>
      obtain ⟨g6, J6, V6, r⟩ := hsp
      exact ⟨g6, J6, V6.ofTry kk, r⟩
    | cont =>
      obtain ⟨g6, J6, V6, r⟩ := hsp
      exact ⟨g6, J6, V6.ofTry kk, r⟩
    | ret u =>
      obtain ⟨v6, g6, J6, V6, rv, r⟩ := hsp
      exact ⟨v6, g6, J6, V6.ofTry kk, rv, r⟩
end
/-! ### C(e, .., k = v, ..), keyword-only parameters without defaults, all written in their order -/
section
variable {K : PySem.W.Frag} {x qual : Str} {st : Stmt} {f : Addr} {fd : FuncData} {ps ks : List Str} {n : Nat}
abbrev KBa (K : PySem.W.Frag) (fd : FuncData) (ps : List Str) (n : Nat) (ks : List Str) : Prop := KBn K fd ps n ks (fun us ws => us ++ ws) (fun vs zs => vs ++ zs)
theorem Fun.kba (F : Fun K x qual st f fd)
    (h : ∀ (kV doc pm : Value) (an : Option Addr) (cdv ct : Value) (us ws : List Value), us.length = n → ws.length = ks.length → bindArgs (PySem.W.fnOf x qual (defArgs st) (defBody st) (defScope st) .none kV doc pm an cdv ct) ⟨us, ks.zip ws⟩ = pure (ps.zip (us ++ ws))) : KBa K fd ps n ks := by
  obtain ⟨_, _, kV, doc, pm, an, cdv, ct, _, rfl, _, _⟩ := F.ex
  exact ⟨fun s us ws _ l1 l2 => .of_eq (h kV doc pm an cdv ct us ws l1 l2), fun r1 r2 => r1.append r2⟩
end
structure OwnCK (P : Program) (w : World) (K : PySem.W.Frag) (mg : Str → Option Value) (base : Heap) (CX : CXT) (x : Str) (C : Addr) (k : Nat) (ps : List Str) (n : Nat) (ks : List Str) (sp : Sp) : Prop where
  ex : ∃ (f : Addr) (fd : FuncData), FnOk P w K mg base CX k f fd ps sp ∧ Mk K C f ∧ mg x = some (.ref C) ∧ KBa K fd ps (n + 1) ks
section
variable {X : Cx} {CX : CXT} {k n : Nat} {f C : Addr} {fd : FuncData} {ps ks : List Str} {sp : Sp} {E : St → XK} {x : Str} {p pos : Pos} {e : Expr} {es : List Expr} {kws : List Keyword} {t tk : TA} {W : WX}
/-- the errors wished at the slots -/
def tMakeKS (C : Addr) (n m : Nat) (sp : Sp) (E : St → XK) (t tk : TA) : TE := fun g J Q => t g J fun vs J1 => tk g J1 fun zs J2 => vs.length = n ∧ zs.length = m ∧ ∀ o dx, J2 o = none → J2 dx = none → dx ≠ o →
  sp (.ref o :: vs ++ zs) (upd (upd J2 dx (.own o)) o (.ins C dx [])) (fun v J3 => v = .non ∧ Q (.ref o) J3) (fun cl d J3 => E g cl d J3)
theorem run_makeKS {pins : List (Addr × Obj)} {g : St} {J : Hp} {s : Shared} {Q : VK} {us ws : List Value} {vs zs : List V} (M : Mk X.K C f) (F : FnOk X.prog X.w X.K X.mg X.base CX k f fd ps sp) (hr : Room (k + 1) X.A) (hb : KBa X.K fd ps (n + 1) ks) (hx : PassesAt CX X g (E g))
    (I : Inv X pins g J s) (r : Vals vs us) (rz : Vals zs ws) (l1 : vs.length = n) (l2 : zs.length = ks.length)
    (h : ∀ o dx, J o = none → J dx = none → dx ≠ o → sp (.ref o :: vs ++ zs) (upd (upd J dx (.own o)) o (.ins C dx [])) (fun v J2 => v = .non ∧ Q (.ref o) J2) (E g)) :
    wpAny (model X.prog X.w) X.A (call (.ref C) us (ks.zip ws)) (EP X pins g Q) X.xe s := by
  have want := h (s.heap.objs.size + 1) s.heap.objs.size (I.hok.fresh (Nat.le_succ _)) (I.hok.fresh (Nat.le_refl _)) (Nat.ne_of_lt (Nat.lt_succ_self _))
  have I2 := Inv.made (C := C) I
  have m1 : Vals (V.ref (s.heap.objs.size + 1) :: vs) (Value.ref (s.heap.objs.size + 1) :: us) := .cons rfl r
  have m2 := hb.rel m1 rz
  have k1 : (Value.ref (s.heap.objs.size + 1) :: us).length = n + 1 := by rw [List.length_cons, ← r.length, l1]
  refine wpAny_call (make_map (f := f) I.kIn M.makes M.init (beq_iff_eq.mp M.fn) (codeAny_mono (F.run _ X.stack _ _ ⟨Value.ref (s.heap.objs.size + 1) :: us, ks.zip ws⟩ (Value.ref (s.heap.objs.size + 1) :: us ++ ws) _ _ (E g) (hr.make C us (ks.zip ws))
    (I2.env0.make C us (ks.zip ws)) (hb.to _ (Value.ref (s.heap.objs.size + 1) :: us) ws I2.kIn k1 (rz.length.symm.trans l2)) m2 want) fun z t1 hz => ?_))
  cases z with
  | error u => exact hx pins _ _ u t1 I2 hz
  | ok fl =>
    cases fl with
    | ret u =>
      obtain ⟨v, J3, I3, rv, ev, q3⟩ := I2.after hz
      subst ev
      exact ⟨rv, ⟨V.ref (s.heap.objs.size + 1), J3, I3, rfl, q3⟩⟩
    | next => exact False.elim hz
    | brk => exact False.elim hz
    | cont => exact False.elim hz
theorem pe_newKS (O : OwnCK X.prog X.w X.K X.mg X.base (L2.CX X.prog X.w) x C k ps n ks sp) (hr : Room (k + 1) X.A) (tw : Takes X W) (ha : PA X (e :: es) t) (hkw : PK X kws tk) (hg : Gl X x := by rfl)
    (hall : (backToKw pos (keywordEach kws X.env)).all (·.1.isSome) = true := by rfl) (hks : (backToKw pos (keywordEach kws X.env)).filterMap (·.1) = ks := by rfl) (hdb : (x == ("__debug__" : Str)) = false := by decide)
    (he : starEach (e :: es) X.env = (false, eval e X.env) :: starEach es X.env := by rfl) (hpl : ((backTo pos (starEach (e :: es) X.env)).any (·.1) || (backToKw pos (keywordEach kws X.env)).any (·.1.isNone)) = false := by rfl) :
    PE X (.Call (.Name x p) (e :: es) kws pos) (tMakeKS C n ks.length sp (WE W) t tk) := by
  obtain ⟨f, fd, F, M, hm, hb⟩ := O.ex
  refine ⟨fun pins s g J Q I h => wpAny_Call_Name_kw (ld_glob I hg hm ?_ hdb)⟩
  refine PySem.W.callWith_KW (h₀ := X.base) I.ok.mod.kin M.kp hall (thn (ha.run pos pins s g J _ I h) fun us s1 ⟨vs, J1, I1, r, q⟩ => ?_) hpl he
  refine thn (hkw.run pos pins s1 g J1 _ I1 q) fun ws s2 ⟨zs, J2, I2, rz, l1, l2, q2⟩ => ⟨I2.kIn, ?_⟩
  rw [hks]
  exact run_makeKS M F hr hb (passAt tw g) I2 r rz l1 l2 q2
end
section
variable {X : Cx} {e : Expr} {f : Str} {pos : Pos} {ta : TE}
/-- e.f where the context is not known yet -/
theorem pe_fldA (he : PE X e ta) (hb : attributeBase e f X.env (eval e X.env) = eval e X.env := by rfl) : PE X (.Attribute e f pos) (tFld X.K ta f) := pe_fld he hb
end
end L2

set_option Elab.async false
set_option maxRecDepth 100000
set_option maxHeartbeats 4000000
/-! slices and sums of tuples, whichever object it is -/
namespace L2
open PySem PySem.Spec PyProof.Rows
section
variable {X : Cx}
theorem cut_whole {xs : List V} {lo hi : Option Int} (h : HT.sIx xs.length 0 lo = 0 ∧ HT.sIx xs.length xs.length hi = xs.length) : cutV xs lo hi = xs := by
  unfold cutV
  rw [h.1, h.2]
  simp
/-- a slice of a tuple, whichever object it is -/
def rSlE : V → Option Int → Option Int → Hp → VK → Prop := fun x lo hi H Q => ∃ a xs, x = .ref a ∧ H a = some (.tup xs) ∧ ∀ p H', Ext H H' → H' p = some (.tup (cutV xs lo hi)) → Q (.ref p) H'
theorem sl_tupE : SlR X rSlE := by
  intro pins s σ H x v vl vu lo hi sl Q I rx hs pl pu h
  obtain ⟨a, xs, rfl, ha, q⟩ := h
  exact sl_tupA pins s σ H _ v vl vu lo hi sl Q I rx hs pl pu ⟨a, xs, rfl, SqT.of ha, fun hw => q a H Ext.rfl' (by rw [cut_whole hw]; exact ha), fun _ p hp => q p _ (Ext.upd hp) upd_same⟩
/-- the sum of two tuples, whichever object it is -/
def rCatE : R2 := fun x y H Q => ∃ a b xs ys, x = .ref a ∧ y = .ref b ∧ H a = some (.tup xs) ∧ H b = some (.tup ys) ∧ xs.length + ys.length ≤ sizeLine ∧ ∀ p H', Ext H H' → H' p = some (.tup (xs ++ ys)) → Q (.ref p) H'
theorem op_catE : OpR X (binaryOp .Add) rCatE := by
  intro pins s σ H x y v u Q I rx ry h
  obtain ⟨a, b, xs, ys, rfl, rfl, ha, hb, hz, q⟩ := h
  refine op_catA pins s σ H _ _ v u Q I rx ry ⟨a, b, xs, ys, rfl, rfl, SqT.of ha, SqT.of hb, hz, fun e => q b H Ext.rfl' ?_, fun _ e => q a H Ext.rfl' ?_, fun _ _ p hp => q p _ (Ext.upd hp) upd_same⟩
  · subst e
    exact hb
  · subst e
    rw [List.append_nil]
    exact ha
end
end L2

set_option Elab.async false
set_option linter.all false
set_option maxRecDepth 100000
set_option maxHeartbeats 4000000
/-! one of two readings; tuple.index of flat items; an own __contains__ -/
namespace PySem.W
open PySem PySem.Calls PyProof.Rows
section
variable {prog : Program} {w : World} {A : Around} {E : Value → Shared → Prop} {s : Shared} {K : Frag} {x C f : Addr} {ox : Obj} {od : Option Obj}
theorem contains_fn {v : Value} {Q : Bool → Shared → Prop} (X : K.In s.heap) (I : InstAt s.heap x ox C od) (hs : findIn K (.ref C) "__contains__" = some (some (.ref f))) (hf : isFn K (.ref f) = true)
    (h : wpAny (model prog w) A (call (.ref f) [.ref x, v]) (fun r s' => ∃ b, r = .bool b ∧ Q b s') E s) : wpAny (model prog w) A (contains (.ref x) v) Q E s := by
  unfold contains
  refine wpAny_holding ?_
  have e1 : stdlibNamesSay? (.ref x) v = none := rfl
  rw [e1]
  refine wpAny_bind (wpAny_bind (I.type.here ((looks_findIn X hs).here ?_)))
  show wpAny _ _ (if (some (Value.ref f) == some Value.none) = true then _ else _) _ _ _
  rw [if_neg (by simp)]
  refine wpAny_bind (m := callSpecialUnlessNone? (.ref x) _ _ _) ?_
  unfold callSpecialUnlessNone?
  refine wpAny_bind (wpAny_bind (I.type.here ((looks_findIn X hs).here ?_)))
  refine wpAny_holding (wpAny_bind ((bind_fn X _ (beq_iff_eq.mp hf)).here ?_))
  show wpAny _ _ (if (Value.ref f == Value.none) = true then _ else _) _ _ _
  rw [if_neg (by simp)]
  refine wpAny_bind (wpAny_mono h (fun r s' z => ?_) fun _ _ z => z)
  obtain ⟨b, rfl, q⟩ := z
  exact wpAny_pure (wpAny_truthy_bool q)
end
end PySem.W
namespace L2
open PySem PySem.Spec PyProof.Rows
section
variable {X : Cx}
theorem pe_either {ex : Expr} {t1 t2 : TE} (h1 : PE X ex t1) (h2 : PE X ex t2) : PE X ex (fun g J Q => t1 g J Q ∨ t2 g J Q) := ⟨fun pins s g J Q I h => h.elim (fun z => h1.run pins s g J Q I z) (fun z => h2.run pins s g J Q I z)⟩
def rIndexT (K : PySem.W.Frag) : V → List V → Hp → VK → Prop := fun o vs J Q => ∃ (p : Addr) (ts : List V) (e : V) (n : Nat) (c : V), o = V.ref p ∧ vs = [e] ∧ SqT K J p ts ∧ flatV e = true ∧ ts.all flatV = true ∧ ts[n]? = some c ∧ eqV c e = true ∧
  (∀ (m : Nat) (c' : V), m < n → ts[m]? = some c' → eqV c' e = false) ∧ Q (.int (n : Nat)) J
theorem mt_tupIndex : MtR X "tuple.index" (rIndexT X.K) := by
  intro pins s g J o vs v us Q I ro rvs h
  obtain ⟨p, ts, e, n, c, rfl, rfl, ht, fe, fts, hc, hce, no, q⟩ := h
  cases ro
  cases rvs with
  | cons re rt =>
    rename_i ue ut
    cases rt
    obtain ⟨its, rv, ⟨⟨cls, dd, dt, sl⟩, ho, hcl, nn, hd⟩, hz⟩ := I.tuple ht
    simp only at hcl hd
    subst hcl hd
    obtain ⟨u, hu, ru⟩ := rv.get hc
    obtain ⟨nl, ne⟩ := List.getElem?_eq_some_iff.mp hu
    have hvl := rv.length
    have hn : n < its.toArray.size := by simpa using nl
    refine call_meets PySem.F.slot_tuple_index ⟨_, ho, rfl⟩ PySem.F.entry_tuple_index (PySem.F.args_tuple_index_2 _ _) (TI.tuple_indexAt p its.toArray nn dd sl ue (eqU e) n hn ?_ ?_)
      ⟨ho, fun w hw => mem_eqAt re fe rv fts w (by simpa using hw), ?_⟩
    · have e1 : its.toArray[n] = u := by simpa using ne
      rw [e1, eqU_of ru (flat_at fts hc)]
      exact hce
    · intro m hm hmn
      have ml : m < its.length := by simpa using hm
      have mt : m < ts.length := by omega
      have gm : ts[m]? = some ts[m] := List.getElem?_eq_getElem mt
      obtain ⟨u2, hu2, ru2⟩ := rv.get gm
      obtain ⟨_, me⟩ := List.getElem?_eq_some_iff.mp hu2
      have e2 : its.toArray[m] = u2 := by simpa using me
      rw [e2, eqU_of ru2 (flat_at fts gm)]
      exact no m _ hmn gm
    · exact ⟨.int (n : Nat), J, I.tok _, ⟨_, rfl⟩, q⟩
end
section
variable {X : Cx} {CX : CXT} {k : Nat} {f C : Addr} {fd : FuncData} {ps : List Str} {sp : Sp}
/-- x in o, o an instance of the class at C with an own __contains__ -/
def rInO (C : Addr) (sp : Sp) : R2 := fun x y H Q => ∃ a dx fs, y = .ref a ∧ H a = some (.ins C dx fs) ∧ sp [y, x] H (fun v H' => ∃ b, v = .bl b ∧ Q (.bl b) H') E0
theorem op_inO (F : FnOk X.prog X.w X.K X.mg X.base CX k f fd ps sp) (hs : PySem.W.findIn X.K (.ref C) "__contains__" = some (some (.ref f))) (hf : PySem.W.isFn X.K (.ref f) = true) (hr : Room k X.A) (hb : Binds X.K fd ps []) (hx : Passes CX X E0) : OpR X (compareOp .In) (rInO C sp) := by
  intro pins s g J x y v u Q I rx ry hq
  obtain ⟨a, dx, fs, rfl, ha, q⟩ := hq
  cases (show u = Value.ref a from ry)
  obtain ⟨mA, O, _⟩ := ins_get I.hok ha
  obtain ⟨od, O, _⟩ := O.look
  show wpAny (model X.prog X.w) X.A (contains (.ref a) v >>= fun b => pure (.bool b)) (EP X pins g Q) X.xe s
  refine wpAny_bind (PySem.W.contains_fn I.kIn O hs hf (wpAny_mono (run_at (vs := [.ref a, x]) F hr rfl hb hx I (.cons rfl (.cons rx .nil)) q) (fun r s' z => ?_) fun _ _ e => e))
  obtain ⟨w', J', I', rv, b, rfl, q'⟩ := z
  cases rv
  exact ⟨b, rfl, wpAny_pure ⟨.bl b, J', I', rfl, q'⟩⟩
theorem inO {m : Nat} (O : OwnM X.prog X.w X.K X.mg X.base CX C "__contains__" m ps sp) (hr : Room m X.A) (hx : Passes CX X E0) : OpR X (compareOp .In) (rInO C sp) := by
  obtain ⟨f, fd, F, M, hi, hb⟩ := O.ex
  exact op_inO F M.at_ hi hr hb hx
end
end L2

set_option Elab.async false
set_option maxRecDepth 100000
set_option maxHeartbeats 4000000
/-! ranges with a step made lists and tuples; zip of two tuples in a comprehension; a def that is held by a name -/
namespace L2
open PySem PySem.Spec PyProof.Rows
theorem pss_dead {X : Cx} {ss : List Stmt} : PSs X ss (fun _ _ _ => False) := ⟨fun _ _ _ _ _ _ h => h.elim⟩
/-- the def at f keeps its promise -/
structure OwnAt (P : Program) (w : World) (K : PySem.W.Frag) (mg : Str → Option Value) (base : Heap) (CX : CXT) (f : Addr) (k : Nat) (ps : List Str) (sp : Sp) : Prop where
  ex : ∃ fd, FnOk P w K mg base CX k f fd ps sp ∧ PySem.W.keepIn K (.ref f) = true ∧ Binds K fd ps []
theorem Own.at_ {P : Program} {w : World} {K : PySem.W.Frag} {mg : Str → Option Value} {base : Heap} {CX : CXT} {x : Str} {k : Nat} {ps : List Str} {sp : Sp} (O : Own P w K mg base CX x k ps sp) : ∃ f, mg x = some (.ref f) ∧ OwnAt P w K mg base CX f k ps sp := by
  obtain ⟨f, fd, F, hm, hk, hb⟩ := O.ex
  exact ⟨f, hm, fd, F, hk, hb⟩
section
variable {X : Cx} {CX : CXT} {x : Str} {k i : Nat} {f : Addr} {ps : List Str} {sp : Sp} {e : Expr} {es : List Expr} {t : TA} {p pos : Pos}
/-- the i-th slot holds f, which is called; W is wished for what it raises -/
def tCallVS (i : Nat) (f : Addr) (sp : Sp) (E : St → XK) (t : TA) : TE := fun σ H Q => σ[i]? = some (some (.ref f)) ∧ t σ H fun vs H1 => sp vs H1 Q (E σ)
theorem pe_ownVS {W : WX} (O : OwnAt X.prog X.w X.K X.mg X.base (L2.CX X.prog X.w) f k ps sp) (hr : Room k X.A) (tk : Takes X W) (hN : X.N[i]? = some x) (hv : Vis X.env.scope x) (ha : PA X (e :: es) t)
    (hdb : (x == ("__debug__" : Str)) = false := by decide) (hcd : (x == ("__classdict__" : Str)) = false := by decide)
    (he : starEach (e :: es) X.env = (false, eval e X.env) :: starEach es X.env := by rfl) (hpl : (backTo pos (starEach es X.env)).any (·.1) = false := by rfl) : PE X (.Call (.Name x p) (e :: es) [] pos) (tCallVS i f sp (WE W) t) := by
  obtain ⟨fd, F, hk, hb⟩ := O.ex
  refine ⟨fun pins s σ H Q I h => ?_⟩
  obtain ⟨hσ, h⟩ := h
  refine PyProof.Rows.Call_ (thn ((pe_var (pos := p) hN hv hdb hcd).run pins s σ H (fun y H1 => y = .ref f ∧ H1 = H) I ⟨_, hσ, rfl, rfl⟩) fun u s1 ⟨y, H1, I1, rx, ex, eh⟩ => ?_) rfl
  subst ex eh
  obtain rfl : u = Value.ref f := rx
  refine PySem.W.callWith_K (h₀ := X.base) I1.ok.mod.kin hk (thn (ha.run pos pins s1 σ H1 _ I1 h) fun us s2 ⟨vs, H2, I2, r, q⟩ => ⟨I2.kIn, ?_⟩) he hpl
  exact run_fnSD (us := us) (vs := vs) F hr hb .nil (passAt tk σ) I2 r (by rw [List.append_nil]; exact q)
end
/-! zip of two tuples -/
section
variable {K : PySem.W.Frag} {a b : Addr} {xs ys : List V}
theorem walk_zipT {n : Nat} (hn : n = min xs.length ys.length) : Walk (RZ.ItzT K a b) n (fun H => SqT K H a xs ∧ SqT K H b ys) (YPair (fun i => xs[i]?) (fun i => ys[i]?)) := by
  refine ⟨fun i _ hi q => ⟨xs, ys, xs[i]'(by omega), ys[i]'(by omega), q.1, q.2, List.getElem?_eq_getElem (by omega), List.getElem?_eq_getElem (by omega)⟩, fun _ q => ⟨xs, ys, q.1, q.2, by omega⟩, fun i H v H' _ q y => ?_⟩
  obtain ⟨T, x, y, e1, e2, e3, h1, h2⟩ := y
  exact ⟨T, x, y, e1, e2, e3, h1 xs q.1, h2 ys q.2⟩
end
/-! ranges with a step -/
section
variable {X : Cx}
def PRg3 (X : Cx) (e : Expr) (t : St → Hp → (Int → Int → Int → Hp → Prop) → Prop) : Prop :=
  ∀ (pins : List (Addr × Obj)) (s : Shared) (σ : St) (H : Hp) (Q : Int → Int → Int → Hp → Prop), Inv X pins σ H s → t σ H Q →
    wpAny (model X.prog X.w) X.A (eval e X.env) (fun x s' => ∃ r a b c t u v H', x = Value.ref r ∧ IsRange s'.heap r a b c t u v ∧ Inv X pins σ H' s' ∧ Q a b c H') X.xe s
def tRg3 (t : TA) (σ : St) (H : Hp) (Q : Int → Int → Int → Hp → Prop) : Prop := t σ H fun vs H1 => ∃ a b c, vs = [.int a, .int b, .int c] ∧ c ≠ 0 ∧ (-(2 ^ 62) ≤ a ∧ a < 2 ^ 62 ∧ -(2 ^ 62) ≤ b ∧ b < 2 ^ 62 ∧ c.natAbs < 1073741824) ∧ Q a b c H1
end
end L2

set_option Elab.async false
set_option maxRecDepth 100000
set_option maxHeartbeats 4000000
/-! comprehensions over ranges and over zip of two tuples, told by the place; what is tested and made only adds to the heap -/
namespace L2
open PySem PySem.Spec PyProof.Rows
/-- a comprehension's turns -/
abbrev LcGo (J : It) (g : TG) (tt : TT) (te : TE) (vs : List Nat) (σ : St) (H1 : Hp) (D : Addr) (Qd : Hp → Prop) : Prop :=
  ∃ W : Nat → Nat → Hp → Prop, (∃ m, W 0 m (upd H1 D (.lst []))) ∧ ∀ i m H, W i m H →
    (J.stop i H ∧ Qd H) ∨ (J.go i H ∧ ∃ Nx : Hp → Prop, (∀ H', Nx H' → ∃ m', m' < m ∧ W (i + 1) m' H') ∧ ∀ x H', J.yld i H x H' → g x (wipe σ vs) H' fun σ2 H2 => wipe σ2 vs = wipe σ vs ∧ tt σ2 H2 fun b H3 =>
      if b = true then te σ2 H3 fun y H4 => ∃ acc, H4 D = some (.lst acc) ∧ acc.length < sizeLine ∧ Nx (upd H4 D (.lst (acc ++ [y]))) else Nx H3)
theorem range_snoc (n : Nat) : List.range (n + 1) = List.range n ++ [n] := List.range_succ
section
variable {K : PySem.W.Frag} {σ : St} {H : Hp} {te : TE} {tt : TT} {vs : List Nat}
theorem lc_turn {f : Nat → V} {b : Nat → Bool} {D : Addr} {i n : Nat} {σ2 : St} {H' : Hp} (hD : H D = none) (hz : n < sizeLine) (hi : i < n) (hw : wipe σ2 vs = wipe σ vs) (e : Ext H H') (hl : H' D = some (.lst (((List.range i).filter b).map f)))
    (ht : ∀ Q : Bool → Hp → Prop, (∀ H'', Ext H' H'' → Q (b i) H'') → tt σ2 H' Q) (he : b i = true → ∀ H3, Ext H' H3 → ∀ Q : VK, (∀ H'', Ext H3 H'' → Q (f i) H'') → te σ2 H3 Q) :
    wipe σ2 vs = wipe σ vs ∧ tt σ2 H' fun b' H3 => if b' = true then te σ2 H3 fun y H4 => ∃ acc, H4 D = some (.lst acc) ∧ acc.length < sizeLine ∧ (Ext H (upd H4 D (.lst (acc ++ [y]))) ∧ upd H4 D (.lst (acc ++ [y])) D = some (.lst (((List.range (i + 1)).filter b).map f)))
      else (Ext H H3 ∧ H3 D = some (.lst (((List.range (i + 1)).filter b).map f))) := by
  refine ⟨hw, ht _ fun H3 e3 => ?_⟩
  have hl3 := e3 _ _ hl
  cases hb : b i with
  | true =>
    refine iteT (he hb H3 e3 _ fun H4 e4 => ⟨_, e4 _ _ hl3, ?_, ext_mut ((e.trans e3).trans e4) hD, ?_⟩)
    · rw [List.length_map]
      refine Nat.lt_of_le_of_lt (Nat.le_trans (List.length_filter_le _ _) ?_) hz
      rw [List.length_range]
      omega
    · rw [upd_same, range_snoc, List.filter_append, List.map_append]
      simp [hb]
  | false =>
    refine iteF ⟨e.trans e3, ?_⟩
    rw [hl3, range_snoc, List.filter_append, List.map_append]
    simp [hb]
theorem lc_rgR {Qd : Addr → Hp → Prop} {lo : Int} {n j : Nat} {f : Nat → V} {b : Nat → Bool} (hz : n < sizeLine) (hw : ∀ x, wipe ((wipe σ vs).set j (some x)) vs = wipe σ vs)
    (ht : ∀ i, i < n → ∀ H', Ext H H' → ∀ Q : Bool → Hp → Prop, (∀ H'', Ext H' H'' → Q (b i) H'') → tt ((wipe σ vs).set j (some (.int (lo + i)))) H' Q)
    (he : ∀ i, i < n → b i = true → ∀ H', Ext H H' → ∀ Q : VK, (∀ H'', Ext H' H'' → Q (f i) H'') → te ((wipe σ vs).set j (some (.int (lo + i)))) H' Q)
    (q : ∀ D H', H D = none → Ext H H' → H' D = some (.lst (((List.range n).filter b).map f)) → Qd D H') : ∀ D, H D = none → LcGo (Itr lo n) (gName j) tt te vs σ H D (Qd D) := fun D hD =>
  lc_range (fun i H' => Ext H H' ∧ H' D = some (.lst (((List.range i).filter b).map f))) ⟨Ext.upd hD, upd_same⟩ (fun i H' hi pv => lc_turn hD hz hi (hw _) pv.1 pv.2 (ht i hi H' pv.1) fun hb H3 e3 => he i hi hb H3 (pv.1.trans e3)) (fun H' pv => q D H' hD pv.1 pv.2)
theorem lc_zipR {Qd : Addr → Hp → Prop} {a b2 : Addr} {xs ys : List V} {n i1 i2 : Nat} {f : Nat → V} {b : Nat → Bool} (hx : SqT K H a xs) (hy : SqT K H b2 ys) (hn : n = min xs.length ys.length) (hz : n < sizeLine)
    (hw : ∀ x y, wipe (((wipe σ vs).set i1 (some x)).set i2 (some y)) vs = wipe σ vs)
    (ht : ∀ i x y, i < n → xs[i]? = some x → ys[i]? = some y → ∀ H', Ext H H' → ∀ Q : Bool → Hp → Prop, (∀ H'', Ext H' H'' → Q (b i) H'') → tt (((wipe σ vs).set i1 (some x)).set i2 (some y)) H' Q)
    (he : ∀ i x y, i < n → xs[i]? = some x → ys[i]? = some y → b i = true → ∀ H', Ext H H' → ∀ Q : VK, (∀ H'', Ext H' H'' → Q (f i) H'') → te (((wipe σ vs).set i1 (some x)).set i2 (some y)) H' Q)
    (q : ∀ D H', H D = none → Ext H H' → H' D = some (.lst (((List.range n).filter b).map f)) → Qd D H') : ∀ D, H D = none → LcGo (RZ.ItzT K a b2) (gTup K 2 (gCons (gName i1) (gCons (gName i2) gNil))) tt te vs σ H D (Qd D) := fun D hD => by
  refine lc_it (walk_zipT (K := K) (a := a) (b := b2) (xs := xs) (ys := ys) hn) (fun i H' => Ext H H' ∧ H' D = some (.lst (((List.range i).filter b).map f))) ⟨Ext.upd hD, upd_same⟩ (fun i H' _ pv => ⟨hx.ext pv.1, hy.ext pv.1⟩) (fun i v H' H'' hi pv y => ?_) (fun H' pv => q D H' hD pv.1 pv.2)
  obtain ⟨T, x, y, rfl, hT, rfl, h1, h2⟩ := y
  have eT := Ext.upd (o := .tup [x, y]) hT
  refine ⟨T, [x, y], rfl, SqT.of upd_same, rfl, x, [y], rfl, y, [], rfl, rfl, ?_⟩
  exact lc_turn hD hz hi (hw _ _) (pv.1.trans eT) (eT _ _ pv.2) (ht i x y hi h1 h2 _ (pv.1.trans eT)) fun hb H3 e3 => he i x y hi h1 h2 hb H3 ((pv.1.trans eT).trans e3)
end
end L2

set_option Elab.async false
set_option maxRecDepth 100000
set_option maxHeartbeats 4000000
/-! rules with the kit's own part named, for what stands within a comprehension -/
namespace L2
open PySem PySem.Spec PyProof.Rows
section
variable {X : Cx} {K : PySem.W.Frag}
theorem ix_tupK (h : X.K = K) : IxR X (rIxT K) := by
  subst h
  exact ix_tup
theorem ix_listK (h : X.K = K) : IxR X (rIxL K) := by
  subst h
  exact ix_list
theorem cr_maxK (h : X.K = K) (hc : X.calm = true) : CallR X (.builtin "max") (rMax K) := by
  subst h
  exact cr_max hc
theorem cr_minK (h : X.K = K) (hc : X.calm = true) : CallR X (.builtin "min") (rMin K) := by
  subst h
  exact cr_min hc
theorem pe_fldK {e : Expr} {ta : TE} {f : Str} {pos : Pos} (h : X.K = K) (he : PE X e ta) (hb : attributeBase e f X.env (eval e X.env) = eval e X.env := by rfl) : PE X (.Attribute e f pos) (tFld K ta f) := by
  subst h
  exact pe_fld he hb
def iListK (K : PySem.W.Frag) (tl : TE) : TI := fun σ H R => tl σ H fun x H1 => ∃ a, x = .ref a ∧ (∃ xs, SqL K H1 a xs) ∧ R (Itl K a) H1
theorem pi_listK {tg l : Expr} {tl : TE} (h : X.K = K) (hl : PE X l tl) : PI X tg l (iListK K tl) := by
  subst h
  exact pi_list hl
def rTupOfK (K : PySem.W.Frag) : List V → Hp → VK → Prop := fun xs H Q => ∃ p ys, xs = [.ref p] ∧ ((SqL K H p ys ∧ ∀ l, H l = none → Q (.ref l) (upd H l (.tup ys))) ∨ (SqT K H p ys ∧ Q (.ref p) H))
theorem call_tuple_ofK (h : X.K = K) : CallR X (.type "tuple") (rTupOfK K) := by
  subst h
  exact call_tuple_of
def rListOfK (K : PySem.W.Frag) : List V → Hp → VK → Prop := fun xs H Q => ∃ p ys, xs = [.ref p] ∧ (SqL K H p ys ∨ SqT K H p ys) ∧ ∀ l, H l = none → Q (.ref l) (upd H l (.lst ys))
theorem call_list_ofK (h : X.K = K) : CallR X (.type "list") (rListOfK K) := by
  subst h
  exact call_list_of
end
end L2

set_option Elab.async false
set_option maxRecDepth 100000
set_option maxHeartbeats 4000000
/-! list(zip(a, b)) of two lists -/
namespace PySem
theorem zip_no_len : typeLookup (Value.type "zip") (Str.ofString "__len__") = pure none := am_miss_of_fast (by decide +kernel)
theorem zip_no_hint : typeLookup (Value.type "zip") (Str.ofString "__length_hint__") = pure none := am_miss_of_fast (by decide +kernel)
/-- what has been given out -/
structure ZGiven (h : Heap) (lo : Addr) (acc : Array Value) (xs ys : Array Value) (i : Nat) (as : List Addr) : Prop where
  acc : acc.toList = as.map Value.ref
  len : as.length = i
  rise : List.Pairwise (· < ·) as
  above : ∀ a ∈ as, lo < a
  below : ∀ a ∈ as, a < h.objs.size
  pairs : ∀ (j : Nat) (a : Addr), as[j]? = some a → ∃ x y, xs[j]? = some x ∧ ys[j]? = some y ∧ IsPair h a x y
/-- how the zip stands -/
structure ZSt (h : Heap) (z TI TO i1 i2 l1 l2 : Addr) (xs ys : Array Value) (i : Nat) : Prop where
  first : i = 0 → ∃ a b, IsZip h z TI TO .none ∧ IsPair h TO a b
  later : 0 < i → ∃ T f x y, IsZipHeld h z TI TO T f ∧ IsPair h T x y
  ti : IsPair h TI (.ref i1) (.ref i2)
  it1 : h.IsListIter i1 l1 i
  it2 : h.IsListIter i2 l2 i
  li1 : h.IsList l1 xs
  li2 : h.IsList l2 ys
structure ZOff (S z TI TO i1 i2 l1 l2 : Addr) : Prop where
  z : S ≠ z
  ti : S ≠ TI
  to : S ≠ TO
  i1 : S ≠ i1
  i2 : S ≠ i2
  l1 : S ≠ l1
  l2 : S ≠ l2
section
variable {prog : Program} {w : World} {A : Around} {z TI TO i1 i2 l1 l2 S lo : Addr} {xs ys : Array Value} {i : Nat} {h h' : Heap}
theorem ZGiven.next {acc : Array Value} {as : List Addr} {T : Addr} {x y : Value} (g : ZGiven h lo acc xs ys i as) (hT : T = h.objs.size) (hlo : lo < T) (hsz : h'.objs.size = h.objs.size + 1) (hx : xs[i]? = some x) (hy : ys[i]? = some y) (hp : IsPair h' T x y)
    (hk : ∀ a ∈ as, ∀ x y, IsPair h a x y → IsPair h' a x y) : ZGiven h' lo (acc.push (.ref T)) xs ys (i + 1) (as ++ [T]) where
  acc := by rw [Array.toList_push, g.acc, List.map_append]; rfl
  len := by rw [List.length_append, g.len]; rfl
  rise := by
    rw [List.pairwise_append]
    refine ⟨g.rise, List.pairwise_singleton _ _, fun a ha b hb => ?_⟩
    rw [List.mem_singleton.mp hb, hT]
    exact g.below a ha
  above := fun a ha => by
    rcases List.mem_append.mp ha with ha | ha
    · exact g.above a ha
    · rw [List.mem_singleton.mp ha]
      exact hlo
  below := fun a ha => by
    rw [hsz]
    rcases List.mem_append.mp ha with ha | ha
    · exact Nat.lt_succ_of_lt (g.below a ha)
    · rw [List.mem_singleton.mp ha, hT]
      exact Nat.lt_succ_self _
  pairs := fun j a hj => by
    by_cases e : j < as.length
    · rw [List.getElem?_append_left e] at hj
      obtain ⟨x', y', h1, h2, h3⟩ := g.pairs j a hj
      exact ⟨x', y', h1, h2, hk a (List.mem_of_getElem? hj) _ _ h3⟩
    · have hl := (List.getElem?_eq_some_iff.mp hj).1
      rw [List.length_append] at hl
      have hl1 : [T].length = 1 := rfl
      have ej : j = as.length := by omega
      rw [List.getElem?_append_right (by omega), ej, Nat.sub_self] at hj
      cases hj
      rw [ej, g.len]
      exact ⟨x, y, hx, hy, hp⟩
theorem ZGiven.upd {acc : Array Value} {as : List Addr} {f : Obj → Obj} {oS : Obj} (g : ZGiven h lo acc xs ys i as) (hS : h.get? S = some oS) (hc : oS.cls = .type "list") : ZGiven (h.update S f) lo acc xs ys i as where
  acc := g.acc
  len := g.len
  rise := g.rise
  above := g.above
  below := fun a ha => by rw [Heap.size_update]; exact g.below a ha
  pairs := fun j a hj => by
    obtain ⟨x, y, h1, h2, h3⟩ := g.pairs j a hj
    refine ⟨x, y, h1, h2, ?_⟩
    have ne : S ≠ a := fun e => by
      subst e
      have h4 : h.get? S = some _ := h3
      rw [hS] at h4
      cases h4
      exact absurd (show Value.type "tuple" = Value.type "list" from hc) (by decide)
    show (h.update S f).get? a = _
    rw [Heap.get?_update_other h f ne]
    exact h3
theorem ZSt.upd {f : Obj → Obj} (s : ZSt h z TI TO i1 i2 l1 l2 xs ys i) (o : ZOff S z TI TO i1 i2 l1 l2) {oS : Obj} (hS : h.get? S = some oS) (hc : oS.cls = .type "list") : ZSt (h.update S f) z TI TO i1 i2 l1 l2 xs ys i where
  first := fun e => by
    obtain ⟨a, b, h1, h2⟩ := s.first e
    exact ⟨a, b, (Heap.get?_update_other h f o.z).trans h1, (Heap.get?_update_other h f o.to).trans h2⟩
  later := fun e => by
    obtain ⟨T, b, x, y, h1, h2⟩ := s.later e
    have ne : S ≠ T := fun e => by
      subst e
      have h4 : h.get? S = some _ := h2
      rw [hS] at h4
      cases h4
      exact absurd (show Value.type "tuple" = Value.type "list" from hc) (by decide)
    exact ⟨T, b, x, y, (Heap.get?_update_other h f o.z).trans h1, (Heap.get?_update_other h f ne).trans h2⟩
  ti := (Heap.get?_update_other h f o.ti).trans s.ti
  it1 := by
    obtain ⟨q, h1, h2⟩ := s.it1
    exact ⟨q, (Heap.get?_update_other h f o.i1).trans h1, h2⟩
  it2 := by
    obtain ⟨q, h1, h2⟩ := s.it2
    exact ⟨q, (Heap.get?_update_other h f o.i2).trans h1, h2⟩
  li1 := by
    obtain ⟨q, h1, h2⟩ := s.li1
    exact ⟨q, (Heap.get?_update_other h f o.l1).trans h1, h2⟩
  li2 := by
    obtain ⟨q, h1, h2⟩ := s.li2
    exact ⟨q, (Heap.get?_update_other h f o.l2).trans h1, h2⟩
theorem zip_loop (hh : A.in1.handled = none) (D : ZipApart z TI TO i1 i2 l1 l2) (o : ZOff S z TI TO i1 i2 l1 l2) (res : Value) {n : Nat} (hn : n = min xs.size ys.size) (hz : n + 1 ≤ sizeLine) {g : Array GenState} {d : _} {tk : Nat} {os : _} {R : Result → Shared → Prop} :
    ∀ (k i : Nat) (h : Heap) (acc : Array Value) (c : Nat) (as : List Addr), n - i = k → i ≤ n → ZSt h z TI TO i1 i2 l1 l2 xs ys i → h.get? S = some { cls := .type "list", data := .seq acc c } → lo < h.objs.size → ZGiven h lo acc xs ys i as →
      (∀ (h' : Heap) (acc' : Array Value) (c' : Nat) (as' : List Addr), (∀ b ob, b ≠ S → b ≠ z → b ≠ TO → b ≠ i1 → b ≠ i2 → h.get? b = some ob → h'.get? b = some ob) → h'.get? S = some { cls := .type "list", data := .seq acc' c' } → ZGiven h' lo acc' xs ys n as' → R (.ok (.ret res)) ⟨h', g, d, tk, os⟩) →
      codeAny (model prog w) A (.builtin "list.extend.loop" ⟨[.ref S, .ref z, res], []⟩) R ⟨h, g, d, tk, os⟩ := by
  intro k
  induction k with
  | zero =>
    intro i h acc c as hk hi st hS hlo gv hR
    have ei : i = n := by omega
    subst ei
    refine codeAny_builtin F.entry_extend_loop ?_
    rw [Around.under_plainId F.plain_extend_loop]
    refine wpAny_bind ?_
    have hend : xs[i]? = none ∨ ys[i]? = none := by
      rcases Nat.le_total xs.size ys.size with e | e
      · left
        exact Array.getElem?_eq_none (by omega)
      · right
        exact Array.getElem?_eq_none (by omega)
    by_cases h0 : i = 0
    · obtain ⟨a, b, hz1, hto⟩ := st.first h0
      refine wpAny_pyNext_zip_end hh D hz1 st.ti hto st.it1 st.it2 st.li1 st.li2 hend fun h' hk' => ?_
      refine wpAny_pure (hR h' acc c as (fun b ob b1 b2 b3 b4 b5 e => hk' b ob b2 b3 b4 b5 e) (hk' S _ o.z o.to o.i1 o.i2 hS) ?_)
      have has : as = [] := List.eq_nil_of_length_eq_zero (gv.len.trans h0)
      subst has
      exact ⟨gv.acc, gv.len, gv.rise, gv.above, (fun a ha => by cases ha), fun j a hj => by cases hj⟩
    · obtain ⟨T, f, tx, ty, hz1, hT⟩ := st.later (by omega)
      refine wpAny_pyNext_zip_end_held hh D hz1 hT st.ti st.it1 st.it2 st.li1 st.li2 hend fun h' hk' => ?_
      refine wpAny_pure (hR h' acc c as (fun b ob b1 b2 b3 b4 b5 e => hk' b ob b2 b4 b5 e) (hk' S _ o.z o.i1 o.i2 hS) ?_)
      have keep : ∀ a ∈ as, ∀ x y, IsPair h a x y → IsPair h' a x y := fun a ha x y hp => by
        refine hk' a _ (fun e => ?_) (fun e => ?_) (fun e => ?_) hp
        · subst e
          have q : h.get? a = some _ := hp
          rw [show h.get? a = some _ from hz1] at q
          injection q with q
          injection q with q
          exact absurd q (by decide)
        · subst e
          obtain ⟨ob, q1, q2, _⟩ := st.it1
          rw [show h.get? a = some _ from hp] at q1
          cases q1
          exact absurd (show Value.type "tuple" = Value.type "list_iterator" from q2) (by decide)
        · subst e
          obtain ⟨ob, q1, q2, _⟩ := st.it2
          rw [show h.get? a = some _ from hp] at q1
          cases q1
          exact absurd (show Value.type "tuple" = Value.type "list_iterator" from q2) (by decide)
      refine ⟨gv.acc, gv.len, gv.rise, gv.above, fun a ha => ?_, fun j a hj => ?_⟩
      · obtain ⟨j, hj⟩ := List.getElem?_of_mem ha
        obtain ⟨x, y, _, _, hp⟩ := gv.pairs j a hj
        exact Heap.lt_size (keep a ha _ _ hp)
      · obtain ⟨x, y, h1, h2, hp⟩ := gv.pairs j a hj
        exact ⟨x, y, h1, h2, keep a (List.mem_of_getElem? hj) _ _ hp⟩
  | succ k ih =>
    intro i h acc c as hk hi st hS hlo gv hR
    refine codeAny_builtin F.entry_extend_loop ?_
    rw [Around.under_plainId F.plain_extend_loop]
    refine wpAny_bind ?_
    obtain ⟨x, hx⟩ : ∃ x, xs[i]? = some x := ⟨_, Array.getElem?_eq_getElem (by omega)⟩
    obtain ⟨y, hy⟩ : ∃ y, ys[i]? = some y := ⟨_, Array.getElem?_eq_getElem (by omega)⟩
    have step : ∀ h' : Heap, ZSt h' z TI TO i1 i2 l1 l2 xs ys (i + 1) → IsPair h' h.objs.size x y → h'.objs.size = h.objs.size + 1 → (∀ b ob, b ≠ z → b ≠ TO → b ≠ i1 → b ≠ i2 → h.get? b = some ob → h'.get? b = some ob) → (∀ a ∈ as, ∀ x y, IsPair h a x y → IsPair h' a x y) →
        wpAny (model prog w) A.in1 (do
          Builtin.List.listUpdate (Value.ref S) fun q => q.push (.ref h.objs.size)
          again (Code.builtin "list.extend.loop" ⟨[.ref S, .ref z, res], []⟩)) (fun fin s' => match fin with
          | Fin.done f => R (Except.ok f) s'
          | Fin.again c' => c'.quiet = true ∧ codeAny (model prog w) A c' R s') (fun e s' => R (Except.error e) s') ⟨h', g, d, tk, os⟩ := fun h' st' hp hsz hk' hkp => by
      have hS' : h'.get? S = some { cls := .type "list", data := .seq acc c } := hk' S _ o.z o.to o.i1 o.i2 hS
      have hal : acc.size = i := by
        have e1 := congrArg List.length gv.acc
        rw [List.length_map, gv.len, Array.length_toList] at e1
        exact e1
      refine wpAny_bind (wpAny_updateSeq hS' rfl (wpAny_pure ⟨plainId_quiet F.plain_extend_loop _, ?_⟩) (by omega) (by rw [Array.size_push]; omega))
      have gv' := gv.next (h' := h') rfl hlo hsz hx hy hp hkp
      refine ih (i + 1) (h'.update S (Obj.mapSeq fun q => q.push (.ref h.objs.size))) (acc.push (.ref h.objs.size)) _ (as ++ [h.objs.size]) (by omega) (by omega) (st'.upd o hS' rfl) (Heap.get?_update_self (Obj.mapSeq fun q => q.push (.ref h.objs.size)) hS' rfl) ?_ (gv'.upd hS' rfl) fun h2 acc2 c2 as2 e1 e2 e3 => ?_
      · rw [Heap.size_update, hsz]
        exact Nat.lt_succ_of_lt hlo
      · exact hR h2 acc2 c2 as2 (fun b ob b1 b2 b3 b4 b5 e => e1 b ob b1 b2 b3 b4 b5 ((Heap.get?_update_other h' _ (Ne.symm b1)).trans (hk' b ob b2 b3 b4 b5 e))) e2 e3
    by_cases h0 : i = 0
    · obtain ⟨a, b, hz1, hto⟩ := st.first h0
      have has : as = [] := List.eq_nil_of_length_eq_zero (gv.len.trans h0)
      refine wpAny_pyNext_zip_item D hz1 st.ti hto st.it1 st.it2 st.li1 st.li2 hx hy fun h' a1 a2 a3 a4 a5 a6 a7 => step h' ⟨fun e => absurd e (Nat.succ_ne_zero _), fun _ => ⟨h.objs.size, false, x, y, a1, a5⟩, a7 TI _ D.TIz D.TITO D.TIi1 D.TIi2 st.ti, a3, a4, ?_, ?_⟩ a5 a6 a7 fun a ha => by rw [has] at ha; cases ha
      · obtain ⟨q, h1, h2⟩ := st.li1
        exact ⟨q, a7 l1 q D.l1z D.l1TO D.l1i1 D.l1i2 h1, h2⟩
      · obtain ⟨q, h1, h2⟩ := st.li2
        exact ⟨q, a7 l2 q D.l2z D.l2TO D.l2i1 D.l2i2 h1, h2⟩
    · obtain ⟨T, f, tx, ty, hz1, hT⟩ := st.later (by omega)
      have kp : ∀ (h' : Heap), (∀ b ob, b ≠ z → b ≠ i1 → b ≠ i2 → h.get? b = some ob → h'.get? b = some ob) → ∀ a x y, IsPair h a x y → IsPair h' a x y := fun h' a7 a x y hp => by
        refine a7 a _ (fun e => ?_) (fun e => ?_) (fun e => ?_) hp
        · subst e
          have q : h.get? a = some _ := hp
          rw [show h.get? a = some _ from hz1] at q
          injection q with q
          injection q with q
          exact absurd q (by decide)
        · subst e
          obtain ⟨ob, q1, q2, _⟩ := st.it1
          rw [show h.get? a = some _ from hp] at q1
          cases q1
          exact absurd (show Value.type "tuple" = Value.type "list_iterator" from q2) (by decide)
        · subst e
          obtain ⟨ob, q1, q2, _⟩ := st.it2
          rw [show h.get? a = some _ from hp] at q1
          cases q1
          exact absurd (show Value.type "tuple" = Value.type "list_iterator" from q2) (by decide)
      refine wpAny_pyNext_zip_item_held D hz1 hT st.ti st.it1 st.it2 st.li1 st.li2 hx hy fun h' a1 a3 a4 a5 a6 a7 => step h' ⟨fun e => absurd e (Nat.succ_ne_zero _), fun _ => ⟨T, true, tx, ty, a1, kp h' a7 T tx ty hT⟩, a7 TI _ D.TIz D.TIi1 D.TIi2 st.ti, a3, a4, ?_, ?_⟩ a5 a6 (fun b ob b1 b2 b3 b4 e => a7 b ob b1 b3 b4 e) fun a ha x y hp => kp h' a7 a x y hp
      · obtain ⟨q, h1, h2⟩ := st.li1
        exact ⟨q, a7 l1 q D.l1z D.l1i1 D.l1i2 h1, h2⟩
      · obtain ⟨q, h1, h2⟩ := st.li2
        exact ⟨q, a7 l2 q D.l2z D.l2i1 D.l2i2 h1, h2⟩
theorem list_init_zip (hh : A.in1.handled = none) (D : ZipApart z TI TO i1 i2 l1 l2) (o : ZOff S z TI TO i1 i2 l1 l2) {n : Nat} (hn : n = min xs.size ys.size) (hz : n + 1 ≤ sizeLine) {g : Array GenState} {d : _} {tk : Nat} {os : _} {R : Result → Shared → Prop}
    (st : ZSt h z TI TO i1 i2 l1 l2 xs ys 0) (hS : h.get? S = some { cls := .type "list", data := .seq #[] }) (hlo : lo < h.objs.size)
    (hR : ∀ (h' : Heap) (acc' : Array Value) (c' : Nat) (as' : List Addr), (∀ b ob, b ≠ S → b ≠ z → b ≠ TO → b ≠ i1 → b ≠ i2 → h.get? b = some ob → h'.get? b = some ob) → h'.get? S = some { cls := .type "list", data := .seq acc' c' } → ZGiven h' lo acc' xs ys n as' → R (.ok (.ret .none)) ⟨h', g, d, tk, os⟩) :
    wpAny (model prog w) A.in1 (Builtin.«list.__init__» ⟨[.ref S, .ref z], []⟩) (fun fin s' => match fin with
      | Fin.done f => R (Except.ok f) s'
      | Fin.again c' => c'.quiet = true ∧ codeAny (model prog w) A c' R s') (fun e s' => R (Except.error e) s') ⟨h, g, d, tk, os⟩ := by
  refine wpAny_bind ?_
  unfold Builtin.List.listItems
  refine wpAny_bind (wpAny_seqItems hS rfl (wpAny_pure ?_))
  refine wpAny_bind (wpAny_updateSeq hS rfl ?_)
  refine wpAny_bind (wpAny_letGo ?_)
  obtain ⟨a0, b0, hz0, hto0⟩ := st.first rfl
  have hS1 := Heap.get?_update_self (h := h) (Obj.mapSeq fun _ => #[]) hS rfl
  have st1 := st.upd (f := Obj.mapSeq fun _ => #[]) o hS rfl
  have sz1 : (h.update S (Obj.mapSeq fun _ => #[])).objs.size = h.objs.size := Heap.size_update _ _ _
  have off1 : ∀ b ob, b ≠ S → h.get? b = some ob → (h.update S (Obj.mapSeq fun _ => #[])).get? b = some ob := fun b ob hb e => (Heap.get?_update_other h _ (Ne.symm hb)).trans e
  generalize h.update S (Obj.mapSeq fun _ => #[]) = h1 at hS1 st1 sz1 off1 ⊢
  have hz1 : h1.get? z = some _ := off1 z _ (Ne.symm o.z) hz0
  have hT : ∀ (h2 : Heap) (g2 : _) , h2.get? z = some { cls := Value.type "zip", data := Data.fields #[Value.none, Value.bool false, Value.bool false, Value.ref TI, Value.ref TO] } → (Shared.mk h2 g2 d tk os).TypeIs (.ref z) "zip" := fun h2 g2 e => ⟨_, e, rfl⟩
  refine wpAny_bind (wpAny_typeOf (hT h1 g hz1) ?_)
  have e1 : (Builtin.List.listSameRef (Value.ref S) (Value.ref z) || Value.type "zip" == Value.type "list" || Value.type "zip" == Value.type "tuple") = false := by
    have : Builtin.List.listSameRef (Value.ref S) (Value.ref z) = false := beq_eq_false_iff_ne.mpr o.z
    rw [this]
    rfl
  rw [e1, if_neg (by decide)]
  refine wpAny_bind (wpAny_pyIter_zip hz1 ?_)
  refine wpAny_bind (wpAny_holding ?_)
  refine wpAny_bind (wpAny_specialOf (hT h1 g hz1) zip_no_len ?_)
  refine wpAny_bind (wpAny_specialOf (hT h1 g hz1) zip_no_hint (wpAny_pure ?_))
  rw [if_pos (by rfl)]
  refine wpAny_bind (wpAny_rule ?_)
  refine wpAny_bind ?_
  unfold Builtin.List.listTouch
  refine wpAny_bind (wpAny_updateSeq hS1 rfl ?_)
  have hS2 := Heap.get?_update_self (h := h1) (Obj.mapSeq fun q => q.push Value.none) hS1 rfl
  have st2 := st1.upd (f := Obj.mapSeq fun q => q.push Value.none) o hS1 rfl
  have sz2 : (h1.update S (Obj.mapSeq fun q => q.push Value.none)).objs.size = h1.objs.size := Heap.size_update _ _ _
  have off2 : ∀ b ob, b ≠ S → h1.get? b = some ob → (h1.update S (Obj.mapSeq fun q => q.push Value.none)).get? b = some ob := fun b ob hb e => (Heap.get?_update_other h1 _ (Ne.symm hb)).trans e
  generalize h1.update S (Obj.mapSeq fun q => q.push Value.none) = h2 at hS2 st2 sz2 off2 ⊢
  refine wpAny_updateSeq hS2 rfl ?_
  have hS3 := Heap.get?_update_self (h := h2) (Obj.mapSeq fun q => q.pop) hS2 rfl
  have st3 := st2.upd (f := Obj.mapSeq fun q => q.pop) o hS2 rfl
  have sz3 : (h2.update S (Obj.mapSeq fun q => q.pop)).objs.size = h2.objs.size := Heap.size_update _ _ _
  have off3 : ∀ b ob, b ≠ S → h2.get? b = some ob → (h2.update S (Obj.mapSeq fun q => q.pop)).get? b = some ob := fun b ob hb e => (Heap.get?_update_other h2 _ (Ne.symm hb)).trans e
  refine wpAny_pure ⟨plainId_quiet F.plain_extend_loop _, ?_⟩
  refine zip_loop (lo := lo) hh D o .none hn hz n 0 (h2.update S (Obj.mapSeq fun q => q.pop)) #[] _ [] (Nat.sub_zero n) (Nat.zero_le n) st3 hS3 (by rw [sz3, sz2, sz1]; exact hlo) ⟨rfl, rfl, .nil, (fun _ h => nomatch h), (fun _ h => nomatch h), (fun _ _ h => by cases h)⟩ fun h' acc' c' as' k1 k2 k3 => ?_
  exact hR h' acc' c' as' (fun b ob b1 b2 b3 b4 b5 e => k1 b ob b1 b2 b3 b4 b5 (off3 b ob b1 (off2 b ob b1 (off1 b ob b1 e)))) k2 k3
/-- list(z), z a zip of two lists as it was made -/
theorem call_list_zip {E : Value → Shared → Prop} {Q : Value → Shared → Prop} (hh : A.in1.in1.handled = none) (D : ZipApart z TI TO i1 i2 l1 l2) {n : Nat} (hn : n = min xs.size ys.size) (hz : n + 1 ≤ sizeLine) {s : Shared} (st : ZSt s.heap z TI TO i1 i2 l1 l2 xs ys 0)
    (hQ : ∀ (h' : Heap) (acc' : Array Value) (c' : Nat) (as' : List Addr), (∀ b ob, b ≠ z → b ≠ TO → b ≠ i1 → b ≠ i2 → s.heap.get? b = some ob → h'.get? b = some ob) → h'.get? s.heap.objs.size = some { cls := .type "list", data := .seq acc' c' } → ZGiven h' s.heap.objs.size acc' xs ys n as' → Q (.ref s.heap.objs.size) { s with heap := h' }) :
    wpAny (model prog w) A (call (.type "list") [.ref z]) Q E s := by
  obtain ⟨h, g, d, tk, os⟩ := s
  obtain ⟨a0, b0, hz0, hto0⟩ := st.first rfl
  refine callType_codes F.called_list (F.typeCall_list_1 _) F.entry_list_init (code_list_new (.ref z) (Q₁ := fun v s' => v = .ref h.objs.size ∧ s' = ⟨h.push { cls := .type "list", data := .seq #[] }, g, d, tk, os⟩) ⟨rfl, rfl⟩) fun obj s₁ h₁ => ?_
  obtain ⟨rfl, rfl⟩ := h₁
  have hS := Heap.get?_push_size h (o := { cls := .type "list", data := .seq #[] }) rfl
  have kp : ∀ b ob, h.get? b = some ob → (h.push { cls := Value.type "list", data := Data.seq #[] }).get? b = some ob := fun b ob e => Heap.get?_push_of_some _ e
  have lt : ∀ {b : Addr} {ob : Obj}, h.get? b = some ob → h.objs.size ≠ b := fun e => Nat.ne_of_gt (Heap.lt_size e)
  have o : ZOff h.objs.size z TI TO i1 i2 l1 l2 := ⟨lt hz0, lt st.ti, lt hto0, (by obtain ⟨_, q, _⟩ := st.it1; exact lt q), (by obtain ⟨_, q, _⟩ := st.it2; exact lt q), (by obtain ⟨_, q, _⟩ := st.li1; exact lt q), (by obtain ⟨_, q, _⟩ := st.li2; exact lt q)⟩
  have st' : ZSt (h.push { cls := Value.type "list", data := Data.seq #[] }) z TI TO i1 i2 l1 l2 xs ys 0 := ⟨fun _ => ⟨a0, b0, kp _ _ hz0, kp _ _ hto0⟩, fun e => absurd e (Nat.lt_irrefl _), kp _ _ st.ti, (by obtain ⟨q, q1, q2⟩ := st.it1; exact ⟨q, kp _ _ q1, q2⟩), (by obtain ⟨q, q1, q2⟩ := st.it2; exact ⟨q, kp _ _ q1, q2⟩), (by obtain ⟨q, q1, q2⟩ := st.li1; exact ⟨q, kp _ _ q1, q2⟩), (by obtain ⟨q, q1, q2⟩ := st.li2; exact ⟨q, kp _ _ q1, q2⟩)⟩
  refine ⟨⟨_, hS, rfl⟩, F.args_list_init_2 _ _, list_init_zip (lo := h.objs.size) hh D o hn hz st' hS (by rw [Heap.size_push]; exact Nat.lt_succ_self _) fun h' acc' c' as' k1 k2 k3 => ⟨rfl, ?_⟩⟩
  exact hQ h' acc' c' as' (fun b ob b2 b3 b4 b5 e => k1 b ob (Ne.symm (lt e)) b2 b3 b4 b5 (kp b ob e)) k2 k3
end
end PySem

set_option Elab.async false
set_option maxRecDepth 100000
set_option maxHeartbeats 4000000
/-! tuple(range(a, b, c)), list(range(a, b, c)), list(zip(x, y)) as expressions -/
namespace L2
open PySem PySem.Spec PyProof.Rows
section
variable {X : Cx}
theorem vals3 {x y z : V} {us : List Value} (r : Vals [x, y, z] us) : ∃ u v w, us = [u, v, w] ∧ RelV x u ∧ RelV y v ∧ RelV z w := by
  cases r with
  | cons h1 r =>
    obtain ⟨v, w, rfl, h2, h3⟩ := vals2 r
    exact ⟨_, v, w, rfl, h1, h2, h3⟩
theorem pylong_no {x c : Int} (h : c.natAbs < 1073741824) : Builtin.divisionGoesByPylong x c = false := by
  unfold Builtin.divisionGoesByPylong
  have hd : ¬ (if (c == 0) = true then 0 else c.natAbs.log2 / 30 + 1) > 300 := by
    split
    · omega
    · rename_i h0
      have hc : c.natAbs ≠ 0 := fun e => h0 (by rw [Int.natAbs_eq_zero.mp e]; rfl)
      have : c.natAbs.log2 < 30 := (Nat.log2_lt hc).mpr (by simpa using h)
      omega
  dsimp only
  rw [decide_eq_false hd]
  rfl
theorem prg_3 {e : Expr} {es : List Expr} {ta : TA} {p pos : Pos} (hg : Gl X "range") (hm : X.mg "range" = none) (ha : PA X (e :: es) ta) (he : starEach (e :: es) X.env = (false, eval e X.env) :: starEach es X.env := by rfl) (hpl : (backTo pos (starEach es X.env)).any (·.1) = false := by rfl) :
    PRg3 X (.Call (.Name "range" p) (e :: es) [] pos) (tRg3 ta) := by
  intro pins s σ H Q I h
  refine PyProof.Rows.Call_ (ld_blt I hg hm (u := .type "range") (by rfl) (PyProof.Rows.callWith_type1 (thn (ha.run pos pins s σ H _ I h) fun us s1 ⟨vs, H1, I1, r1, q1⟩ => ?_) he hpl)) rfl
  obtain ⟨a, b, c, rfl, hc, ⟨h1, h2, h3, h4, h5⟩, q⟩ := q1
  obtain ⟨u, v, w, rfl, ⟨t1, rfl⟩, ⟨t2, rfl⟩, ⟨t3, rfl⟩⟩ := vals3 r1
  refine call_range_3 hc ⟨s1.heap.objs.size, a, b, c, t1, t2, t3, H1, rfl, Heap.get?_push_size _ rfl, ?_, q⟩ (.inl (pylong_no h5))
  exact I1.kept (t' := s1.toks) fun b o e => Heap.get?_push_of_some _ e
def rgC (a c : Int) (n : Nat) : List V := (List.range n).map fun (i : Nat) => .int (a + (i : Int) * c)
theorem vals_rgC {a c : Int} {n : Nat} {acc : Array Value} (h : ItemsOf (fun i v => ∃ t, v = Value.int (a + (i : Int) * c) t) acc n) : Vals (rgC a c n) acc.toList := by
  refine vals_of_at ?_ fun j x u hx hu => ?_
  · show (rgC a c n).length = acc.toList.length
    rw [show acc.toList.length = acc.size from rfl, h.1]
    simp [rgC]
  · have hj : j < n := by
      have := (List.getElem?_eq_some_iff.mp hx).1
      simpa [rgC] using this
    obtain ⟨t, rfl⟩ := h.2 j u (by rw [← Array.getElem?_toList]; exact hu)
    unfold rgC at hx
    rw [List.getElem?_map, List.getElem?_range hj] at hx
    cases hx
    exact ⟨t, rfl⟩
def tTupRg3 (te : St → Hp → (Int → Int → Int → Hp → Prop) → Prop) : TE := fun σ H Q => te σ H fun a b c H1 => ∃ n, RgC a b c n ∧ n ≤ 2 ^ 24 ∧ ∀ q, H1 q = none → Q (.ref q) (upd H1 q (.tup (rgC a c n)))
def tLstRg3 (te : St → Hp → (Int → Int → Int → Hp → Prop) → Prop) : TE := fun σ H Q => te σ H fun a b c H1 => ∃ n, RgC a b c n ∧ n ≤ 2 ^ 24 ∧ ∀ q, H1 q = none → Q (.ref q) (upd H1 q (.lst (rgC a c n)))
theorem pe_tupRg3 {e : Expr} {te : St → Hp → (Int → Int → Int → Hp → Prop) → Prop} {p pos : Pos} (hc : X.calm = true) (hg : Gl X "tuple") (hm : X.mg "tuple" = none) (he : PRg3 X e te) (hs : starEach [e] X.env = (false, eval e X.env) :: starEach [] X.env := by rfl) :
    PE X (.Call (.Name "tuple" p) [e] [] pos) (tTupRg3 te) := by
  refine ⟨fun pins s σ H Q I h => ?_⟩
  refine PyProof.Rows.Call_ (ld_blt I hg hm (u := .type "tuple") (by rfl) (PyProof.Rows.callWith_type1 ?_ hs rfl)) rfl
  rw [hs]
  refine Calls.spliced_cons (thn (he pins s σ H _ I h) fun x s1 ⟨r, a, b, c, t, u, v, H1, ex, hr, I1, n, hn, hz, q⟩ => Calls.spliced_nil ?_)
  subst ex
  obtain ⟨_, _, h3, h4⟩ := hn
  refine call_tuple_range (I1.ok.hd hc) hr h3 h4 hz fun h' tk acc hk hacc => ?_
  have I2 := I1.kept (t' := tk) hk
  have hzl : (rgC a c n).length ≤ sizeLine := by
    rw [show (rgC a c n).length = n by simp [rgC]]
    exact Nat.le_trans hz (by decide)
  refine ⟨.ref h'.objs.size, upd H1 h'.objs.size (.tup (rgC a c n)), I2.laid (t' := tk) (fun b o e => Heap.get?_push_of_some _ e) (Nat.le_refl _) ⟨hzl, acc.toList, vals_rgC hacc, ⟨_, Heap.get?_push_size _ rfl, rfl, _, rfl⟩⟩, rfl, q _ (I2.hok.fresh (Nat.le_refl _))⟩
theorem pe_listRg3 {e : Expr} {te : St → Hp → (Int → Int → Int → Hp → Prop) → Prop} {p pos : Pos} (hc : X.calm = true) (hg : Gl X "list") (hm : X.mg "list" = none) (he : PRg3 X e te) (hs : starEach [e] X.env = (false, eval e X.env) :: starEach [] X.env := by rfl) :
    PE X (.Call (.Name "list" p) [e] [] pos) (tLstRg3 te) := by
  refine ⟨fun pins s σ H Q I h => ?_⟩
  refine PyProof.Rows.Call_ (ld_blt I hg hm (u := .type "list") (by rfl) (PyProof.Rows.callWith_type1 ?_ hs rfl)) rfl
  rw [hs]
  refine Calls.spliced_cons (thn (he pins s σ H _ I h) fun x s1 ⟨r, a, b, c, t, u, v, H1, ex, hr, I1, n, hn, hz, q⟩ => Calls.spliced_nil ?_)
  subst ex
  obtain ⟨_, _, h3, h4⟩ := hn
  refine call_list_range (I1.ok.hd hc) hr h3 h4 hz fun h' tk acc c' hk hS hacc => ?_
  have hzl : (rgC a c n).length ≤ sizeLine := by
    rw [show (rgC a c n).length = n by simp [rgC]]
    exact Nat.le_trans hz (by decide)
  refine ⟨.ref s1.heap.objs.size, upd H1 s1.heap.objs.size (.lst (rgC a c n)), I1.laid (t' := tk) hk (Nat.le_refl _) ⟨hzl, acc.toList, c', vals_rgC hacc, hS⟩, rfl, q _ (I1.hok.fresh (Nat.le_refl _))⟩
/-! list(zip(x, y)), two lists of ints -/
theorem zipApart {n la lb : Nat} (h1 : la < n) (h2 : lb < n) : ZipApart (n + 4) (n + 2) (n + 3) n (n + 1) la lb where
  TIz := show (n + 2 : Nat) ≠ n + 4 by omega
  TOz := show (n + 3 : Nat) ≠ n + 4 by omega
  i1z := show (n : Nat) ≠ n + 4 by omega
  i2z := show (n + 1 : Nat) ≠ n + 4 by omega
  TITO := show (n + 2 : Nat) ≠ n + 3 by omega
  TIi1 := show (n + 2 : Nat) ≠ n by omega
  TIi2 := show (n + 2 : Nat) ≠ n + 1 by omega
  TOi1 := show (n + 3 : Nat) ≠ n by omega
  TOi2 := show (n + 3 : Nat) ≠ n + 1 by omega
  i12 := show (n : Nat) ≠ n + 1 by omega
  l1z := show (la : Nat) ≠ n + 4 by omega
  l1TO := show (la : Nat) ≠ n + 3 by omega
  l1i1 := show (la : Nat) ≠ n by omega
  l1i2 := show (la : Nat) ≠ n + 1 by omega
  l2z := show (lb : Nat) ≠ n + 4 by omega
  l2TO := show (lb : Nat) ≠ n + 3 by omega
  l2i1 := show (lb : Nat) ≠ n by omega
  l2i2 := show (lb : Nat) ≠ n + 1 by omega
theorem lt_off {n b : Nat} (h : b < n) : b ≠ n + 4 ∧ b ≠ n + 3 ∧ b ≠ n ∧ b ≠ n + 1 := ⟨by omega, by omega, by omega, by omega⟩
/-- the same heap with k places more, all of them free -/
theorem padded (h : Heap) : ∀ k : Nat, ∃ h2 : Heap, h2.objs.size = h.objs.size + k ∧ (∀ b o, h.get? b = some o → h2.get? b = some o) ∧ ∀ b o, h2.get? b = some o → h.get? b = some o
  | 0 => ⟨h, rfl, fun _ _ e => e, fun _ _ e => e⟩
  | k + 1 => by
    obtain ⟨h2, e1, e2, e3⟩ := padded h k
    refine ⟨h2.push { cls := .none, data := .freed }, by rw [Heap.size_push, e1]; rfl, fun b o e => Heap.get?_push_of_some _ (e2 b o e), fun b o e => e3 b o ?_⟩
    obtain ⟨objs, life⟩ := h2
    unfold Heap.push Heap.get? at e
    dsimp only at e
    rw [Array.getElem?_push] at e
    by_cases hb : b = objs.size
    · rw [if_pos hb] at e
      cases e
    · rw [if_neg hb] at e
      exact e
theorem paired_at {α β : Type} {R : α → β → Prop} : ∀ {as : List α} {qs : List β} {j : Nat} {t : α}, Paired R as qs → as[j]? = some t → ∃ q, qs[j]? = some q ∧ R t q
  | _ :: _, _ :: _, 0, _, .cons h _, e => by
    cases e
    exact ⟨_, rfl, h⟩
  | _ :: _, _ :: _, j + 1, _, .cons _ h, e => by
    obtain ⟨q, h1, h2⟩ := paired_at (j := j) h (by simpa using e)
    exact ⟨q, by simpa using h1, h2⟩
theorem kv_zip : ∀ (xs : List Int) (ys : List Int) (us : List Value), Vals (ys.map V.int) us → KV ((xs.zip ys).map fun p => ((Sum.inl p.1 : Key), V.int p.2)) ((xs.zip us).map fun p => ((Sum.inl p.1 : Key), p.2))
  | [], _, _, _ => .nil
  | _ :: _, [], [], _ => .nil
  | x :: xs, y :: ys, u :: us, .cons h1 h2 => .cons ⟨rfl, h1⟩ (kv_zip xs ys us h2)
def tLstZip (K : PySem.W.Frag) (t : TA) : TE := fun σ H Q => t σ H fun vs H1 => ∃ (la lb : Addr) (xs ys : List Int), vs = [.ref la, .ref lb] ∧ SqL K H1 la (xs.map V.int) ∧ SqL K H1 lb (ys.map V.int) ∧ xs.length = ys.length ∧ xs.length ≤ 1000000 ∧
  ∀ (D : Addr) (as : List Addr) (H2 : Hp), Ext H1 H2 → H2 D = some (.lst (as.map V.ref)) → as.length = xs.length → (∀ (j : Nat) (t : Addr), as[j]? = some t → ∃ x y, xs[j]? = some x ∧ ys[j]? = some y ∧ H2 t = some (.tup [.int x, .int y])) → Q (.ref D) H2
theorem pe_listZip {a : Expr} {es : List Expr} {ta : TA} {p pz zpos pos : Pos} (hc : X.calm = true) (hg : Gl X "list") (hm : X.mg "list" = none) (hg2 : Gl X "zip") (hm2 : X.mg "zip" = none) (ha : PA X (a :: es) ta)
    (hs : starEach [.Call (.Name "zip" pz) (a :: es) [] zpos] X.env = (false, eval (.Call (.Name "zip" pz) (a :: es) [] zpos) X.env) :: starEach [] X.env := by rfl) (he : starEach (a :: es) X.env = (false, eval a X.env) :: starEach es X.env := by rfl) (hpl : (backTo zpos (starEach es X.env)).any (·.1) = false := by rfl) :
    PE X (.Call (.Name "list" p) [.Call (.Name "zip" pz) (a :: es) [] zpos] [] pos) (tLstZip X.K ta) := by
  refine ⟨fun pins s σ H Q I h => ?_⟩
  refine PyProof.Rows.Call_ (ld_blt I hg hm (u := .type "list") (by rfl) (PyProof.Rows.callWith_type1 ?_ hs rfl)) rfl
  rw [hs]
  refine Calls.spliced_cons (PyProof.Rows.Call_ (ld_blt I hg2 hm2 (u := .type "zip") (by rfl) (PyProof.Rows.callWith_type1 (thn (ha.run zpos pins s σ H _ I h) fun us s1 ⟨vs, H1, I1, r1, q1⟩ => ?_) he hpl)) rfl)
  obtain ⟨la, lb, xs, ys, rfl, hxs, hys, hll, hz, q⟩ := q1
  obtain ⟨u1, u2, rfl, r1a, r1b⟩ := vals2 r1
  obtain rfl : u1 = Value.ref la := r1a
  obtain rfl : u2 = Value.ref lb := r1b
  obtain ⟨its1, rv1, pl1, _⟩ := I1.list hxs
  obtain ⟨its2, rv2, pl2, _⟩ := I1.list hys
  have hl1 : its1.length = xs.length := by rw [← rv1.length, List.length_map]
  have hl2 : its2.length = ys.length := by rw [← rv2.length, List.length_map]
  have lt1 : la < s1.heap.objs.size := by obtain ⟨o, _, e, _⟩ := pl1; exact Heap.lt_size e
  have lt2 : lb < s1.heap.objs.size := by obtain ⟨o, _, e, _⟩ := pl2; exact Heap.lt_size e
  refine call_zip_2 pl1.isList pl2.isList fun h2 z1 z2 z3 z4 z5 z6 z7 => Calls.spliced_nil ?_
  have I2 := I1.kept (t' := s1.toks) z7
  have D : ZipApart (s1.heap.objs.size + 4) (s1.heap.objs.size + 2) (s1.heap.objs.size + 3) s1.heap.objs.size (s1.heap.objs.size + 1) la lb := zipApart lt1 lt2
  have st : ZSt h2 (s1.heap.objs.size + 4) (s1.heap.objs.size + 2) (s1.heap.objs.size + 3) s1.heap.objs.size (s1.heap.objs.size + 1) la lb its1.toArray its2.toArray 0 := ⟨fun _ => ⟨_, _, z1, z3⟩, fun e => absurd e (Nat.lt_irrefl _), z2, z4, z5, (by obtain ⟨o, q1, q2⟩ := pl1.isList; exact ⟨o, z7 _ _ q1, q2⟩), (by obtain ⟨o, q1, q2⟩ := pl2.isList; exact ⟨o, z7 _ _ q1, q2⟩)⟩
  refine call_list_zip (n := xs.length) (s := { s1 with heap := h2 }) (I2.ok.hd hc) D (by simp; omega) (Nat.le_trans (Nat.succ_le_succ hz) (by decide)) st fun h3 acc c as k1 k2 k3 => ?_
  obtain ⟨hp, p1, p2, p3⟩ := padded s1.heap 5
  have I3 := I1.kept (h' := hp) (t' := s1.toks) p2
  have hk : ∀ b ob, hp.get? b = some ob → h3.get? b = some ob := fun b ob e => by
    have e1 := p3 b ob e
    obtain ⟨n1, n2, n3, n4⟩ := lt_off (Heap.lt_size e1)
    exact k1 b ob n1 n2 n3 n4 (z7 b ob e1)
  have hsz : hp.objs.size = h2.objs.size := by rw [p1, z6]
  have hG : W.KdxG (mixKind X.prog X.w) ((xs.zip its2).map fun p => ((Sum.inl p.1 : Key), p.2)) hp.objs.size h3 as := by
    rw [hsz]
    refine ⟨k3.rise, k3.above, fun j a hj => ?_⟩
    obtain ⟨x, y, hx, hy, hpair⟩ := k3.pairs j a hj
    have hx' : its1[j]? = some x := by simpa using hx
    have hy' : its2[j]? = some y := by simpa using hy
    obtain ⟨n, hn⟩ : ∃ n, xs[j]? = some n := ⟨_, List.getElem?_eq_getElem (by have := (List.getElem?_eq_some_iff.mp hx').1; omega)⟩
    obtain ⟨u, hu, ru⟩ := rv1.get (i := j) (x := .int n) (by rw [List.getElem?_map, hn]; rfl)
    rw [hx'] at hu
    cases hu
    obtain ⟨t, rfl⟩ := ru
    refine ⟨_, .inl n, y, ?_, ?_, hpair⟩
    · rw [List.getElem?_map, (List.getElem?_zip_eq_some (z := (n, y))).mpr ⟨hn, hy'⟩]
      rfl
    · show (n == n) = true
      exact beq_self_eq_true n
  have hal : as.length = ((xs.zip its2).map fun p => ((Sum.inl p.1 : Key), p.2)).length := by
    rw [k3.len, List.length_map, List.length_zip]
    omega
  obtain ⟨H3, e1, e2, e3, e4, e5, e6, I4⟩ := LiI.items_laid (kvs := (xs.zip ys).map fun p => ((Sum.inl p.1 : Key), V.int p.2)) (tk := s1.toks) (s := { s1 with heap := hp, toks := s1.toks }) I3 (by rw [List.length_map, List.length_zip]; exact Nat.le_trans (Nat.min_le_left _ _) (Nat.le_trans hz (by decide))) (kv_zip xs ys its2 rv2) hk (by rw [show ({ s1 with heap := hp, toks := s1.toks } : Shared).heap.objs.size = h2.objs.size from hsz]; exact k2) hal hG k3.acc
  refine ⟨.ref h2.objs.size, H3, I4, rfl, q h2.objs.size as H3 e1 ?_ k3.len fun j t hj => ?_⟩
  · rw [← hsz]
    exact e5
  · obtain ⟨q', h1, h2'⟩ := paired_at e6 hj
    rw [List.getElem?_map] at h1
    cases hz' : (xs.zip ys)[j]? with
    | none => rw [hz'] at h1; cases h1
    | some p =>
      rw [hz'] at h1
      cases h1
      obtain ⟨h3', h4'⟩ := List.getElem?_zip_eq_some.mp hz'
      exact ⟨p.1, p.2, h3', h4', h2'⟩
end
end L2

set_option Elab.async false
set_option maxRecDepth 100000
set_option maxHeartbeats 4000000
namespace L2
open PySem PySem.Spec PyProof.Rows
section
variable {X : Cx} {K : PySem.W.Frag}
theorem op_in_seqK (h : X.K = K) : OpR X (compareOp .In) (rIn K false) := by
  subst h
  exact op_in_seq
theorem op_notIn_seqK (h : X.K = K) : OpR X (compareOp .NotIn) (rIn K true) := by
  subst h
  exact op_notIn_seq
theorem inV_ints (a : Int) : ∀ ns : List Int, inV (.int a) (ns.map V.int) = decide (a ∈ ns)
  | [] => rfl
  | n :: ns => by
    have ih := inV_ints a ns
    unfold inV at ih ⊢
    rw [List.map_cons, List.any_cons, ih]
    have e : eqV (.int n) (.int a) = decide (n = a) := rfl
    rw [e, Bool.eq_iff_iff]
    simp
    constructor
    · rintro (e | e)
      · exact .inl e.symm
      · exact .inr e
    · rintro (e | e)
      · exact .inl e.symm
      · exact .inr e
theorem flat_ints {ns : List Int} : (ns.map V.int).all flatV = true := by
  rw [List.all_eq_true]
  intro v hv
  obtain ⟨n, _, rfl⟩ := List.mem_map.mp hv
  rfl
end
end L2

set_option Elab.async false
set_option maxRecDepth 100000
set_option maxHeartbeats 4000000
namespace L2
open PySem PySem.Spec PyProof.Rows
section
variable {X : Cx} {K : PySem.W.Frag} {a : Expr} {ta : TE}
/-- a truth test with K named, for what stands within a comprehension -/
def tTruK (K : PySem.W.Frag) (ta : TE) : TT := fun σ H Q => ta σ H fun x H' => ∃ k, TruV K x H' k ∧ Q k H'
theorem pt_truthK (h : X.K = K) (ha : PE X a ta) (he : ∀ whole, isTrue a X.env whole = (do let v ← whole; standAt a.pos; holding [v] (truthy v))) :
    PT X a (tTruK K ta) := by
  subst h
  exact pt_truth ha he
end
end L2

set_option Elab.async false
set_option maxRecDepth 100000
set_option maxHeartbeats 4000000
/-! for over a list or a tuple, one walk for both; the body only adds to the heap -/
namespace L2
open PySem PySem.Spec PyProof.Rows
section
variable {K : PySem.W.Frag} {a : Addr} {xs : List V}
theorem for_sq {g : TG} {tb : TS} {D : Ends} {σ : St} {H : Hp} (hx : SqL K H a xs ∨ SqT K H a xs) (Pv : Nat → St → Hp → Prop) (h0 : Pv 0 σ H) (hE : ∀ i σ' H', Pv i σ' H' → Ext H H')
    (hs : ∀ i x σ' H', xs[i]? = some x → Pv i σ' H' → g x σ' H' fun σ2 H2 => tb { D with nx := Pv (i + 1), ct := Pv (i + 1), bk := D.nx } σ2 H2) (hd : ∀ σ' H', Pv xs.length σ' H' → D.nx σ' H') :
    ((∃ xs, SqL K H a xs) ∧ turnsOf g tb D σ (Itl K a) H) ∨ ((∃ xs, SqT K H a xs) ∧ turnsOf g tb D σ (Itt K a) H) := by
  have step : ∀ i x σ' H' H'', i < xs.length → Pv i σ' H' → YAt xs i H' x H'' → g x σ' H'' fun σ2 H2 => tb { D with nx := Pv (i + 1), ct := Pv (i + 1), bk := D.nx } σ2 H2 := by
    rintro i x σ' H' H'' _ pv ⟨rfl, hx'⟩
    exact hs i x σ' H'' hx' pv
  rcases hx with hx | hx
  · exact .inl ⟨⟨xs, hx⟩, for_it (walk_list (xs := xs)) Pv h0 (fun i σ' H' _ pv => hx.ext (hE i σ' H' pv)) step hd⟩
  · exact .inr ⟨⟨xs, hx⟩, for_it (walk_tup (xs := xs)) Pv h0 (fun i σ' H' _ pv => hx.ext (hE i σ' H' pv)) step hd⟩
end
end L2

set_option Elab.async false
set_option maxRecDepth 100000
set_option maxHeartbeats 4000000
/-! a tuple whose object is known: its methods may be called -/
namespace L2
open PySem PySem.Spec PyProof.Rows
def FrzT (H : Hp) (a : Addr) (ts : List V) : Prop := ∃ o, H a = some (.frz o (.tup ts)) ∧ o.dict = none
theorem FrzT.sqT {K : PySem.W.Frag} {H : Hp} {a : Addr} {ts : List V} (h : FrzT H a ts) : SqT K H a ts := by
  obtain ⟨o, h, _⟩ := h
  exact .inl (.inr ⟨o, h⟩)
theorem FrzT.ext {H H' : Hp} {a : Addr} {ts : List V} (h : FrzT H a ts) (e : Ext H H') : FrzT H' a ts := by
  obtain ⟨o, h, d⟩ := h
  exact ⟨o, e _ _ h, d⟩
def rTupFrz (K : PySem.W.Frag) : List V → Hp → VK → Prop := fun xs H Q => ∃ p ys, xs = [.ref p] ∧ SqL K H p ys ∧ ∀ l o, H l = none → o.dict = none → Q (.ref l) (upd H l (.frz o (.tup ys)))
section
variable {X : Cx}
theorem call_tuple_frz : CallR X (.type "tuple") (rTupFrz X.K) := by
  intro pins s σ H xs us Q I r h
  obtain ⟨p, ys, rfl, hq, q⟩ := h
  obtain ⟨u, rfl, rx⟩ := vals1 r
  cases rx
  obtain ⟨its, r', pl, hz⟩ := I.list hq
  have hlen := r'.length
  refine call_tuple_list pl.isList (fun h' kp => ?_) (by simp only [List.size_toArray] <;> omega)
  have I1 : Inv X pins σ H { s with heap := h' } := I.kept (t' := s.toks) kp
  have I2 : Inv X pins σ (upd H h'.objs.size (.frz { cls := .type "tuple", data := .seq its.toArray } (.tup ys))) { s with heap := h'.push { cls := .type "tuple", data := .seq its.toArray } } :=
    I1.laid (t' := s.toks) (fun b o e => Heap.get?_push_of_some _ e) (Nat.le_refl _) (show ObjOk X.prog X.w _ _ _ (.frz _ (.tup ys)) from ⟨Heap.get?_push_size _ rfl, hz, its, r', IsTup.new _ _⟩)
  exact ⟨.ref h'.objs.size, _, I2, rfl, q _ _ (I1.hok.fresh (Nat.le_refl _)) rfl⟩
def tTM (r : V → List V → Hp → VK → Prop) (to : TE) (t : TA) : TE := fun σ H Q => to σ H fun x H1 => ∃ a ts, x = .ref a ∧ FrzT H1 a ts ∧ t σ H1 fun xs H2 => r x xs H2 Q
variable {o e : Expr} {es : List Expr} {to : TE} {t : TA} {name : Str} {apos cpos : Pos} {id : String} {r : V → List V → Hp → VK → Prop}
theorem pe_tm (slot : Slot "tuple" name id) (hty : typeOf (.builtin id) = pure (.type "method_descriptor")) (hm : MtR X id r) (ho : PE X o to) (ha : PA X (e :: es) t)
    (hbase : attributeBase o name X.env (eval o X.env) = eval o X.env := by rfl)
    (hfew : ((backTo cpos (starEach (e :: es) X.env)).all (fun x => !x.1) && (backToKw cpos (keywordEach [] X.env)).all (fun x => x.1.isSome)
      && decide ((e :: es).length + ([] : List Keyword).length + (if ([] : List Keyword).isEmpty then 0 else 1) < 30)) = true := by rfl)
    (hline : (apos.endLine == cpos.line) = true := by rfl) (hs : starEach (e :: es) X.env = (false, eval e X.env) :: starEach es X.env := by rfl) (hplain : (backTo cpos (starEach es X.env)).any (·.1) = false := by rfl) :
    PE X (.Call (.Attribute o name apos) (e :: es) [] cpos) (tTM r to t) := by
  refine ⟨fun pins s σ H Q I h => ?_⟩
  refine wpAny_Call_method_late hbase hfew hline rfl (thn (ho.run pins s σ H _ I h) fun v s1 ⟨x, H1, I1, r1, a, ts, ex, hf, q1⟩ => ?_)
  subst ex
  obtain ⟨ob, hf, hd⟩ := hf
  obtain ⟨h0, _, its, _, ⟨ob', h0', hc, _⟩⟩ := I1.hok a _ hf
  rw [h0] at h0'
  cases h0'
  cases (show v = Value.ref a from r1)
  refine ⟨"tuple", id, PySem.F.plainAttrs_tuple, slot, hty, ⟨ob, h0, hc⟩, fun b eb => by cases eb; exact ⟨ob, h0, hd⟩, ?_⟩
  have hA := ha.run cpos pins s1 σ H1 _ I1 q1
  rw [hs] at hA ⊢
  refine Calls.callWith_builtin (by show (false || (backTo cpos (starEach es X.env)).any (·.1)) = false; rw [hplain] <;> rfl) (Calls.evalArgs_plain ?_)
  exact thn hA fun us s2 ⟨vs, H2, I2, r2, q2⟩ => hm pins s2 σ H2 (.ref a) vs (.ref a) us Q I2 rfl r2 q2
end
theorem sl_listK {X : Cx} {K : PySem.W.Frag} (h : X.K = K) : SlR X (rSlL K) := by
  subst h
  exact sl_list
section
variable {K : PySem.W.Frag} {a : Addr} {xs : List V}
/-- for over a list or a tuple that the body leaves, though it writes elsewhere -/
theorem for_sqM {g : TG} {tb : TS} {D : Ends} {σ : St} {H0 H : Hp} (hx : SqL K H0 a xs ∨ SqT K H0 a xs) (Pv : Nat → St → Hp → Prop) (h0 : Pv 0 σ H) (hE : ∀ i σ' H', Pv i σ' H' → Ext H0 H')
    (hs : ∀ i x σ' H', xs[i]? = some x → Pv i σ' H' → g x σ' H' fun σ2 H2 => tb { D with nx := Pv (i + 1), ct := Pv (i + 1), bk := D.nx } σ2 H2) (hd : ∀ σ' H', Pv xs.length σ' H' → D.nx σ' H') :
    ((∃ xs, SqL K H a xs) ∧ turnsOf g tb D σ (Itl K a) H) ∨ ((∃ xs, SqT K H a xs) ∧ turnsOf g tb D σ (Itt K a) H) := by
  have step : ∀ i x σ' H' H'', i < xs.length → Pv i σ' H' → YAt xs i H' x H'' → g x σ' H'' fun σ2 H2 => tb { D with nx := Pv (i + 1), ct := Pv (i + 1), bk := D.nx } σ2 H2 := by
    rintro i x σ' H' H'' _ pv ⟨rfl, hx'⟩
    exact hs i x σ' H'' hx' pv
  have e0 := hE 0 _ _ h0
  rcases hx with hx | hx
  · exact .inl ⟨⟨xs, hx.ext e0⟩, for_it (walk_list (xs := xs)) Pv h0 (fun i σ' H' _ pv => hx.ext (hE i σ' H' pv)) step hd⟩
  · exact .inr ⟨⟨xs, hx.ext e0⟩, for_it (walk_tup (xs := xs)) Pv h0 (fun i σ' H' _ pv => hx.ext (hE i σ' H' pv)) step hd⟩
/-- for i, x in enumerate(e), the body leaving e, though it writes elsewhere -/
theorem for_enSqM {g : TG} {tb : TS} {D : Ends} {σ : St} {H0 H : Hp} (hx : SqL K H0 a xs ∨ SqT K H0 a xs) (Pv : Nat → St → Hp → Prop) (h0 : Pv 0 σ H) (hE : ∀ i σ' H', Pv i σ' H' → Ext H0 H')
    (hs : ∀ i x σ' H' T, xs[i]? = some x → Pv i σ' H' → H' T = none → g (.ref T) σ' (upd H' T (.tup [.int (i : Nat), x])) fun σ2 H2 => tb { D with nx := Pv (i + 1), ct := Pv (i + 1), bk := D.nx } σ2 H2) (hd : ∀ σ' H', Pv xs.length σ' H' → D.nx σ' H') :
    ((∃ xs, SqL K H a xs) ∧ turnsOf g tb D σ (Ite K a) H) ∨ ((∃ xs, SqT K H a xs) ∧ turnsOf g tb D σ (Itet K a) H) := by
  have step : ∀ i x σ' H' H'', i < xs.length → Pv i σ' H' → YPair (fun i => some (V.int (i : Nat))) (fun i => xs[i]?) i H' x H'' → g x σ' H'' fun σ2 H2 => tb { D with nx := Pv (i + 1), ct := Pv (i + 1), bk := D.nx } σ2 H2 := by
    rintro i v σ' H' H'' hi pv ⟨T, x, y, rfl, hT, rfl, hx', hy⟩
    cases hx'
    exact hs i y σ' H' T hy pv hT
  have e0 := hE 0 _ _ h0
  rcases hx with hx | hx
  · exact .inl ⟨⟨xs, hx.ext e0⟩, for_it (walk_enum (xs := xs)) Pv h0 (fun i σ' H' _ pv => hx.ext (hE i σ' H' pv)) step hd⟩
  · exact .inr ⟨⟨xs, hx.ext e0⟩, for_it (walk_enT (xs := xs)) Pv h0 (fun i σ' H' _ pv => hx.ext (hE i σ' H' pv)) step hd⟩
end
end L2

set_option Elab.async false
set_option maxRecDepth 100000
set_option maxHeartbeats 4000000
/-! data beside instances within a tuple -/
namespace L2
open PySem PySem.Spec PyProof.Rows
section
variable {X : Cx}
variable {n : Nat}
/-- two things of data -/
def DDat (K : PySem.W.Frag) : EqvB := fun x y H k => ∃ a b d e, x = .ref a ∧ y = .ref b ∧ (a = b → k = true) ∧ Dp K H x d ∧ Dp K H y e ∧ SeqAt.shaped d = true ∧ SeqAt.shaped e = true ∧ k = PyData.eqv d e
theorem rcB_dat : RcB X n (DDat X.K) := by
  intro A pins s σ H x y u v k sb I rx ry d
  obtain ⟨a, b, d, e, rfl, rfl, _, hd, he, sd, se, rfl⟩ := d
  obtain ⟨as, r1⟩ := Dp.reads I d _ u hd rx
  obtain ⟨bs, r2⟩ := Dp.reads I e _ v he ry
  exact SeqAt.compareEq_shaped r1 r2 sd se sb.room.units ⟨rfl, H, I, Ext.rfl'⟩
theorem eqB_dat : EqB X n (DDat X.K) := rcB_dat.eqB fun x y H k d => by
  obtain ⟨a, b, _, _, h1, h2, h3, _⟩ := d
  exact ⟨a, b, h1, h2, h3⟩
theorem EqB.or {D D' : EqvB} (h : EqB X n D) (h' : EqB X n D') : EqB X n (fun x y H k => D x y H k ∨ D' x y H k) := by
  intro A pins s σ H x y u v k sb I rx ry d
  exact d.elim (fun d => h A pins s σ H x y u v k sb I rx ry d) (fun d => h' A pins s σ H x y u v k sb I rx ry d)
theorem MonB.or {D D' : EqvB} (h : MonB D) (h' : MonB D') : MonB (fun x y H k => D x y H k ∨ D' x y H k) := fun x y H H' k e d => d.imp (h x y H H' k e) (h' x y H H' k e)
theorem mon_dat {K : PySem.W.Frag} : MonB (DDat K) := fun x y H H' k e d => by
  obtain ⟨a, b, d, f, h1, h2, h3, hd, he, h4⟩ := d
  exact ⟨a, b, d, f, h1, h2, h3, dp_ext e _ _ hd, dp_ext e _ _ he, h4⟩
end
end L2

set_option Elab.async false
set_option maxRecDepth 100000
set_option maxHeartbeats 4000000
/-! not in, of an own __contains__ -/
namespace L2
open PySem PySem.Spec PyProof.Rows
section
variable {X : Cx} {CX : CXT} {k : Nat} {f C : Addr} {fd : FuncData} {ps : List Str} {sp : Sp}
def rNinO (C : Addr) (sp : Sp) : R2 := fun x y H Q => ∃ a dx fs, y = .ref a ∧ H a = some (.ins C dx fs) ∧ sp [y, x] H (fun v H' => ∃ b, v = .bl b ∧ Q (.bl (!b)) H') E0
theorem op_ninO (F : FnOk X.prog X.w X.K X.mg X.base CX k f fd ps sp) (hs : PySem.W.findIn X.K (.ref C) "__contains__" = some (some (.ref f))) (hf : PySem.W.isFn X.K (.ref f) = true) (hr : Room k X.A) (hb : Binds X.K fd ps []) (hx : Passes CX X E0) : OpR X (compareOp .NotIn) (rNinO C sp) := by
  intro pins s g J x y v u Q I rx ry hq
  obtain ⟨a, dx, fs, rfl, ha, q⟩ := hq
  cases (show u = Value.ref a from ry)
  obtain ⟨mA, O, _⟩ := ins_get I.hok ha
  obtain ⟨od, O, _⟩ := O.look
  show wpAny (model X.prog X.w) X.A (contains (.ref a) v >>= fun b => pure (.bool (!b))) (EP X pins g Q) X.xe s
  refine wpAny_bind (PySem.W.contains_fn I.kIn O hs hf (wpAny_mono (run_at (vs := [.ref a, x]) F hr rfl hb hx I (.cons rfl (.cons rx .nil)) q) (fun r s' z => ?_) fun _ _ e => e))
  obtain ⟨w', J', I', rv, b, rfl, q'⟩ := z
  cases rv
  exact ⟨b, rfl, wpAny_pure ⟨.bl (!b), J', I', rfl, q'⟩⟩
theorem ninO {m : Nat} (O : OwnM X.prog X.w X.K X.mg X.base CX C "__contains__" m ps sp) (hr : Room m X.A) (hx : Passes CX X E0) : OpR X (compareOp .NotIn) (rNinO C sp) := by
  obtain ⟨f, fd, F, M, hi, hb⟩ := O.ex
  exact op_ninO F M.at_ hi hr hb hx
end
end L2

set_option Elab.async false
set_option maxRecDepth 100000
set_option maxHeartbeats 4000000
/-! xs.count(y), over data -/
namespace L2
open PySem PySem.Spec PyProof.Rows
section
variable {X : Cx}
def rCntD (K : PySem.W.Frag) : V → List V → Hp → VK → Prop := fun x xs H Q => ∃ (a : Addr) (y : V) (d : PyData) (ds : List PyData), x = V.ref a ∧ xs = [y] ∧ Dp K H (V.ref a) (.list ds) ∧ Dp K H y d ∧ PyData.plainAll ds = true ∧ d.plain = true ∧ PyData.depthAll ds ≤ 60 ∧ Q (.int ((ds.countP fun z => PyData.eqv z d : Nat) : Int)) H
theorem mt_countD (hu : X.A.units + 64 < cLine) : MtR X "list.count" (rCntD X.K) := by
  intro pins s σ H x xs v us Q I rx rxs h
  obtain ⟨a, y, d, ds, rfl, rfl, hl, hy, sl, sd, hdp, q⟩ := h
  cases rx
  obtain ⟨u, rfl, ru⟩ := rxs.one
  obtain ⟨bs, r1⟩ := Dp.reads I d y u hy ru
  cases hl with
  | lst hs ha =>
    obtain ⟨its, rv, pl, _⟩ := I.list hs
    obtain ⟨as, h4⟩ := Dp.readsAll I ds _ its ha rv
    exact SeqAt.count_list_data pl.isList (by simpa using h4) r1 sl sd (by have := Nat.min_le_left (PyData.depthAll ds) d.depth; omega) ⟨.int _, H, I.tok _, ⟨_, rfl⟩, q⟩
end
end L2

set_option Elab.async false
set_option linter.all false
set_option maxRecDepth 100000
set_option maxHeartbeats 4000000
/-! a generator's for and if -/
namespace L2
open PySem PySem.Spec PyProof.Rows GenW
section
variable {M : Model} {A : Around} {R : GenEnd} {Y : Protocol} {n : Nat} {s₀ s : Shared} {c : Code} {fs : List Frame} {env : Env} {K : Flow → Sem PySem.Fin} {J : Value → Sem PySem.Fin} {gd : Bool → Bool} {lv : List Value → List Value}
/-- the row that an error leaves in a loop's code -/
abbrev marked (env : Env) (e : Value) : Sem PySem.Fin := (do noteFrame e env; theTreesLotGoes e : Sem Unit).bind fun _ => .raise e
/-- what a loop's body goes on to -/
abbrev onward (l : Code) : Flow → Sem PySem.Fin := fun f => match f with
  | .next | .cont => .pure (.again l)
  | .brk => .pure (.done .next)
  | .ret v => .pure (.done (.ret v))
theorem gseg_if {test : Expr} {body orelse : List Stmt} {pos : Pos}
    (h : wpAny M (A.over c fs) (isTrue test env (eval test env)) (fun b s' => Seg M A R Y n s₀ c ((if b = true then execs body env else execs orelse env).wrap K J gd lv) fs s') (fun x s' => Seg M A R Y n s₀ c (J x) fs s') s) :
    Seg M A R Y n s₀ c ((exec (.If test body orelse pos) env).wrap K J gd lv) fs s := by
  rw [exec_If]
  refine seg_bind_wrap (wpAny_standAt ?_)
  refine seg_bind_wrap (wpAny_mono h (fun b s' hb => ?_) fun _ _ hx => hx)
  cases b <;> exact hb
theorem gseg_for {tg iter : Expr} {body : List Stmt} {pos : Pos} (hs : ∀ x, foldedSetIterable iter env x = pure x)
    (h : wpAny M (A.over c fs) (eval iter env) (fun v s1 => wpAny M (A.over c fs) (pyIter v) (fun it s2 => ∀ p, Seg M A R Y n s₀ (.forLoop tg it body [] env) (M.den (.forLoop tg it body [] env))
      (.ret (fun r => ((match r with | .ok f => (.pure f : Sem Flow) | .error e => .raise e).onRaise (cameBack env)).wrap K J gd lv) none (gd false) (lv []) c p [] :: fs) s2) (fun x s' => Seg M A R Y n s₀ c (J x) fs s') s1) (fun x s' => Seg M A R Y n s₀ c (J x) fs s') s) :
    Seg M A R Y n s₀ c ((exec (.For tg iter body [] pos) env).wrap K J gd lv) fs s := by
  rw [exec_For]
  refine seg_bind_wrap (wpAny_standAt ?_)
  refine seg_bind_wrap (wpAny_mono h (fun v s1 h1 => ?_) fun _ _ hx => hx)
  refine seg_bind_wrap (wpAny_of_eq (hs v) ?_)
  refine seg_bind_wrap (wpAny_standAt ?_)
  refine seg_bind_wrap (wpAny_holding (wpAny_mono h1 (fun it s2 h2 => ?_) fun _ _ hx => hx))
  exact seg_call h2
end
section
variable {prog : Program} {w : World} {A : Around} {R : GenEnd} {Y : Protocol} {n : Nat} {s₀ s : Shared} {fs : List Frame} {env : Env}
theorem gseg_turn {tg : Expr} {it : Value} {body : List Stmt}
    (h : wpAny (model prog w) (A.over (.forLoop tg it body [] env) fs) (pyNext it) (fun r s1 => match r with
      | none => Seg (model prog w) A R Y n s₀ (.forLoop tg it body [] env) (.pure (.again (.block [] env))) fs s1
      | some v => wpAny (model prog w) (A.over (.forLoop tg it body [] env) fs) (letOwnedTupleGo tg it v) (fun _ s2 => wpAny (model prog w) (A.over (.forLoop tg it body [] env) fs) (assign tg env v) (fun _ s3 =>
          Seg (model prog w) A R Y n s₀ (.forLoop tg it body [] env) ((execs body env).wrap (onward (.forLoop tg it body [] env)) (marked env) id id) fs s3)
          (fun x s' => Seg (model prog w) A R Y n s₀ (.forLoop tg it body [] env) (marked env x) fs s') s2) (fun x s' => Seg (model prog w) A R Y n s₀ (.forLoop tg it body [] env) (marked env x) fs s') s1)
      (fun x s' => Seg (model prog w) A R Y n s₀ (.forLoop tg it body [] env) (marked env x) fs s') s) :
    Seg (model prog w) A R Y n s₀ (.forLoop tg it body [] env) ((model prog w).den (.forLoop tg it body [] env)) fs s := by
  show Seg _ A R Y n s₀ _ ((forTurn tg it body [] env).onRaise (fun x => do noteFrame x env; theTreesLotGoes x)) fs s
  unfold forTurn
  rw [Sem.onRaise_eq_wrap]
  refine seg_bind_wrap (wpAny_standAt ?_)
  refine seg_bind_wrap (wpAny_onRaise (wpAny_mono h (fun r s1 h1 => ?_) fun _ _ hx => wpAny_standAt hx))
  cases r with
  | none => exact h1
  | some v =>
    refine seg_bind_wrap (wpAny_mono h1 (fun _ s2 h2 => ?_) fun _ _ hx => hx)
    refine seg_bind_wrap (wpAny_mono h2 (fun _ s3 h3 => ?_) fun _ _ hx => hx)
    rw [Sem.bind_eq_wrap', Sem.wrap_wrap]
    rw [Sem.wrap_congr (execs body env) _ _ (K' := onward (.forLoop tg it body [] env)) (H' := marked env) (fun f => by cases f <;> rfl) (fun _ => by rfl)]
    exact h3
end
section
variable {X : Cx} {pos : Pos}
def tGIf (c : TT) (t u : TGn) : TGn := fun D ys σ H => c σ H fun b H1 => if b = true then t D ys σ H1 else u D ys σ H1
theorem gs_if {test : Expr} {body orelse : List Stmt} {tc : TT} {t u : TGn} (hc : PT X test tc) (hb : GSs X body t) (ho : GSs X orelse u) : GS X (.If test body orelse pos) (tGIf tc t u) := by
  refine ⟨fun A S ip R n ys s₀ c fs K J gd lv s σ H D g hn k hI ht => ?_⟩
  refine gseg_if ?_
  rw [g.over]
  obtain ⟨acc, cc, r, I⟩ := hI
  refine wpAny_mono (hc.run _ s σ H _ I ht) (fun b s' hb' => ?_) fun x s' hx => k.exc n s₀ x s' hx
  obtain ⟨H2, I2, q2⟩ := hb'
  cases b with
  | true => exact hb.run A S ip R n ys s₀ c fs K J gd lv s' σ H2 D g hn k ⟨acc, cc, r, I2⟩ q2
  | false => exact ho.run A S ip R n ys s₀ c fs K J gd lv s' σ H2 D g hn k ⟨acc, cc, r, I2⟩ q2
/-- W: what holds at turn i (a measure; what is out; the slots; the heap) -/
def tGFor (wi : TI) (g : TG) (tb : TGn) : TGn := fun D ys σ H => wi σ H fun J H1 => ∃ W : Nat → Nat → List V → St → Hp → Prop, (∃ m, W 0 m ys σ H1) ∧ ∀ i m ys σ H, W i m ys σ H →
  (J.stop i H ∧ D.nx ys σ H) ∨ (J.go i H ∧ ∃ N : List V → St → Hp → Prop, (∀ ys' σ' H', N ys' σ' H' → ∃ m', m' < m ∧ W (i + 1) m' ys' σ' H') ∧ ∀ x H', J.yld i H x H' → g x σ H' fun σ2 H2 => tb { D with nx := N, ct := N, bk := D.nx } ys σ2 H2)
theorem gs_for {tg iter : Expr} {body : List Stmt} {wi : TI} {g : TG} {tb : TGn} (hp : PassesOwn (model X.prog X.w) X.A X.env X.xe) (hc : X.calm = true) (hi : PI X tg iter wi) (hg : PG X tg g) (hb : GSs X body tb)
    (hs : ∀ x, foldedSetIterable iter X.env x = pure x := by intro _; rfl) : GS X (.For tg iter body [] pos) (tGFor wi g tb) := by
  refine ⟨fun A S ip R n ys s₀ c fs K J gd lv s σ H D g0 hn k hI ht => ?_⟩
  refine gseg_for hs ?_
  obtain ⟨acc, cc, r, I⟩ := hI
  rw [g0.over]
  refine wpAny_mono (hi.run _ s σ H _ I ht) (fun v s1 h1 => wpAny_mono h1 (fun itv s2 h2 p => ?_) fun x s' hx => k.exc n s₀ x s' hx) fun x s' hx => k.exc n s₀ x s' hx
  obtain ⟨it, fp, tn, Jt, H2, e, I2, T, st2, f2, W, ⟨m0, w0⟩, turn⟩ := h2
  subst e
  have notS : ∀ b ∈ fp, b ≠ S := fun b hb z => (f2 b hb).2.2.2.2.2 (S, lstObj acc cc) (List.mem_append_right _ List.mem_cons_self) z.symm
  have stat : ∀ {H' : Hp} {acc' : Array Value} {cc' : Nat}, (∀ b ∈ fp, H' b = none) → ∀ b ∈ fp, FpOk X ((S, lstObj acc' cc') :: ip) H' b := fun {H' acc' cc'} hn b hb => by
    obtain ⟨_, f1, f3, f4, f5, f6⟩ := f2 b hb
    refine ⟨hn b hb, f1, f3, f4, f5, fun q hq => ?_⟩
    rcases List.mem_append.mp hq with z | z
    · exact f6 q (List.mem_append_left _ z)
    · rcases List.mem_cons.mp z with z | z
      · rw [z]
        exact f6 (S, lstObj acc cc) (List.mem_append_right _ List.mem_cons_self)
      · exact f6 q (List.mem_append_right _ (List.mem_cons_of_mem _ z))
  have gl := fun (kk : Result → Sem PySem.Fin) => gc_loop (k := kk) (c' := .forLoop tg (.ref it) body [] X.env) (l := lv []) (kp := []) (p := p) g0 rfl rfl
  have gb := fun (kk : Result → Sem PySem.Fin) => gc_loop (k := kk) (c' := .block [] X.env) (l := lv []) (kp := []) (p := p) g0 rfl rfl
  have loop : ∀ (m n i : Nat) (ys : List V) (s₀ s : Shared) (σ : St) (H : Hp), n + ys.length = sizeLine → W i m ys σ H → tn i s.heap → (∀ b ∈ fp, H b = none) → GI X S ip ys σ H s →
      Seg (model X.prog X.w) A R (GY X S) n s₀ (.forLoop tg (.ref it) body [] X.env) ((model X.prog X.w).den (.forLoop tg (.ref it) body [] X.env))
        (.ret (fun r => ((match r with | .ok f => (.pure f : Sem Flow) | .error e => .raise e).onRaise (cameBack X.env)).wrap K J gd lv) none (gd false) (lv []) c p [] :: fs) s := by
    intro m
    induction m using Nat.strongRecOn with
    | ind m ih =>
      intro n i ys s₀ s3 σ3 H3 hn w3 st3 fr3 hI3
      have ee : ∀ (n : Nat) (s₀ : Shared) (x : Value) (s' : Shared), X.xe x s' → Seg (model X.prog X.w) A R (GY X S) n s₀ (.forLoop tg (.ref it) body [] X.env) (marked X.env x)
          (.ret (fun r => ((match r with | .ok f => (.pure f : Sem Flow) | .error e => .raise e).onRaise (cameBack X.env)).wrap K J gd lv) none (gd false) (lv []) c p [] :: fs) s' := fun n s₀ x s' hx => by
        unfold marked
        rw [Sem.bind_eq_wrap]
        refine seg_wrap ?_
        rw [(gl _).over]
        refine wpAny_bind (wpAny_mono (hp x s' hx) (fun _ s'' hcb => wpAny_theTreesLotGoes ?_) fun y s'' hcb => ?_)
        · exact seg_leaf (.error x) (seg_cameBack g0 k hcb)
        · exact seg_leaf (.error y) (seg_cameBack g0 k hcb)
      obtain ⟨acc3, cc3, r3, I3⟩ := hI3
      refine gseg_turn ?_
      rw [(gl _).over]
      rcases turn i m ys σ3 H3 w3 with ⟨stop, qn⟩ | ⟨go, N, hN, step⟩
      · refine wpAny_mono (T.done X rfl rfl rfl hc i _ s3 σ3 H3 X.xe I3 (stat fr3) st3 stop) (fun r s4 hr => ?_) fun x s' hx => ee n s₀ x s' hx
        obtain ⟨rfl, I4⟩ := hr
        refine seg_again rfl ?_
        show Seg _ A R _ n s₀ _ (((execs [] X.env).onRaise (fun x => do noteFrame x X.env; theTreesLotGoes x)) >>= fun f => (.pure (.done f) : Sem PySem.Fin)) _ s4
        exact seg_leaf (.ok .next) (k.ok n ys s₀ s4 .next hn ⟨σ3, H3, ⟨acc3, cc3, r3, I4⟩, qn⟩)
      · refine wpAny_mono (T.item X rfl rfl rfl hc i _ s3 σ3 H3 X.xe I3 (stat fr3) st3 go) (fun r s4 hr => ?_) fun x s' hx => ee n s₀ x s' hx
        obtain ⟨u, rfl, h4⟩ := hr
        refine wpAny_mono h4 (fun _ s5 h5 => ?_) fun x s' hx => ee n s₀ x s' hx
        obtain ⟨x, H5, I5, r5, y5, st5, fr5⟩ := h5
        have I5' := I5.pinned (stat fr5) (T.obj _ _ st5)
        refine wpAny_mono (hg.run _ s5 σ3 H5 x u _ I5' r5 (step x H5 y5)) (fun _ s6 h6 => ?_) fun x s' hx => ee n s₀ x s' hx
        obtain ⟨σ6, H6, I6, q6⟩ := h6
        have g1 := gl (fun r => ((match r with | .ok f => (.pure f : Sem Flow) | .error e => .raise e).onRaise (cameBack X.env)).wrap K J gd lv)
        have gl' : GC X S (ip ++ pinsAt fp s5.heap) A (.forLoop tg (.ref it) body [] X.env) (.ret (fun r => ((match r with | .ok f => (.pure f : Sem Flow) | .error e => .raise e).onRaise (cameBack X.env)).wrap K J gd lv) none (gd false) (lv []) c p [] :: fs) id :=
          ⟨g1.pn, fun q hq => (List.mem_append.mp hq).elim (g1.ip q) fun z => notS q.1 (of_pinsAt z).1, g1.apart, g1.over, g1.split, g1.guard, rfl⟩
        refine hb.run A S (ip ++ pinsAt fp s5.heap) R n ys s₀ _ _ _ _ id id s6 σ6 H6 { D with nx := N, ct := N, bk := D.nx } gl' hn ⟨fun n' ys' s₀' s7 f hn' hs => ?_, fun n' s₀' x s7 hx => ee n' s₀' x s7 hx⟩ ⟨acc3, cc3, r3, I6⟩ q6
        have back : ∀ {σ7 : St} {H7 : Hp}, GI X S (ip ++ pinsAt fp s5.heap) ys' σ7 H7 s7 → GI X S ip ys' σ7 H7 s7 ∧ tn (i + 1) s7.heap ∧ ∀ b ∈ fp, H7 b = none := fun {σ7 H7} h7 => by
          obtain ⟨acc7, cc7, r7, I7⟩ := h7
          have pin : ∀ b ∈ fp, ∀ o, s5.heap.get? b = some o → s7.heap.get? b = some o ∧ H7 b = none := fun b hb o e => by
            obtain ⟨e1, e2, _⟩ := I7.pin (b, o) (List.mem_append_right _ (List.mem_cons_of_mem _ (List.mem_append_right _ (mem_pinsAt hb e))))
            exact ⟨e1, e2⟩
          refine ⟨⟨acc7, cc7, r7, Inv.unpinned (pins := (S, lstObj acc7 cc7) :: ip) (pl := pinsAt fp s5.heap) I7⟩, T.keep _ _ _ st5 fun b hb o e => (pin b hb o e).1, fun b hb => ?_⟩
          obtain ⟨o, e, _⟩ := T.obj _ _ st5 b hb
          exact (pin b hb o e).2
        cases f with
        | next =>
          obtain ⟨σ7, H7, G7, n7⟩ := hs
          obtain ⟨m', hm, w7⟩ := hN ys' σ7 H7 n7
          obtain ⟨G8, st8, fr8⟩ := back G7
          exact seg_again rfl (ih m' hm n' (i + 1) ys' s₀' s7 σ7 H7 hn' w7 st8 fr8 G8)
        | cont =>
          obtain ⟨σ7, H7, G7, n7⟩ := hs
          obtain ⟨m', hm, w7⟩ := hN ys' σ7 H7 n7
          obtain ⟨G8, st8, fr8⟩ := back G7
          exact seg_again rfl (ih m' hm n' (i + 1) ys' s₀' s7 σ7 H7 hn' w7 st8 fr8 G8)
        | brk =>
          obtain ⟨σ7, H7, G7, n7⟩ := hs
          exact seg_leaf (.ok .next) (k.ok n' ys' s₀' s7 .next hn' ⟨σ7, H7, (back G7).1, n7⟩)
        | ret v =>
          obtain ⟨x7, σ7, H7, G7, r7, n7⟩ := hs
          exact seg_leaf (.ok (.ret v)) (k.ok n' ys' s₀' s7 (.ret v) hn' ⟨x7, σ7, H7, (back G7).1, r7, n7⟩)
  exact loop m0 n 0 ys s₀ s2 σ H2 hn w0 st2 (fun b hb => (f2 b hb).1) ⟨acc, cc, r, I2⟩
end
end L2

set_option Elab.async false
set_option linter.all false
set_option maxRecDepth 100000
set_option maxHeartbeats 4000000
/-! max(xs, default=d), min(xs, default=d), ints -/
namespace L2
open PySem PySem.Spec PyProof.Rows
def mxD (d : Int) : List Int → Int
  | [] => d
  | n :: ns => ns.foldl max n
def mnD (d : Int) : List Int → Int
  | [] => d
  | n :: ns => ns.foldl min n
theorem foldl_max (n : Int) : ∀ ns : List Int, (ns.foldl max n = n ∨ ns.foldl max n ∈ ns) ∧ n ≤ ns.foldl max n ∧ ∀ y ∈ ns, y ≤ ns.foldl max n
  | [] => ⟨.inl rfl, Int.le_refl _, fun _ h => nomatch h⟩
  | k :: ns => by
    obtain ⟨h1, h2, h3⟩ := foldl_max (max n k) ns
    rw [List.foldl_cons]
    refine ⟨?_, by omega, fun y hy => ?_⟩
    · rcases h1 with h1 | h1
      · rcases Int.le_total n k with h | h
        · exact .inr (by rw [h1, Int.max_eq_right h]; exact List.mem_cons_self)
        · exact .inl (by rw [h1, Int.max_eq_left h])
      · exact .inr (List.mem_cons_of_mem _ h1)
    · rcases List.mem_cons.mp hy with rfl | hy
      · omega
      · exact h3 y hy
theorem foldl_min (n : Int) : ∀ ns : List Int, (ns.foldl min n = n ∨ ns.foldl min n ∈ ns) ∧ ns.foldl min n ≤ n ∧ ∀ y ∈ ns, ns.foldl min n ≤ y
  | [] => ⟨.inl rfl, Int.le_refl _, fun _ h => nomatch h⟩
  | k :: ns => by
    obtain ⟨h1, h2, h3⟩ := foldl_min (min n k) ns
    rw [List.foldl_cons]
    refine ⟨?_, by omega, fun y hy => ?_⟩
    · rcases h1 with h1 | h1
      · rcases Int.le_total n k with h | h
        · exact .inl (by rw [h1, Int.min_eq_left h])
        · exact .inr (by rw [h1, Int.min_eq_right h]; exact List.mem_cons_self)
      · exact .inr (List.mem_cons_of_mem _ h1)
    · rcases List.mem_cons.mp hy with rfl | hy
      · omega
      · exact h3 y hy
theorem mxD_mem {d : Int} {ns : List Int} (h : ns ≠ []) : mxD d ns ∈ ns ∧ ∀ y ∈ ns, y ≤ mxD d ns := by
  cases ns with
  | nil => exact absurd rfl h
  | cons n ns =>
    obtain ⟨h1, h2, h3⟩ := foldl_max n ns
    refine ⟨?_, fun y hy => ?_⟩
    · rcases h1 with h1 | h1
      · exact List.mem_cons.mpr (.inl h1)
      · exact List.mem_cons_of_mem _ h1
    · rcases List.mem_cons.mp hy with rfl | hy
      · exact h2
      · exact h3 y hy
theorem mnD_mem {d : Int} {ns : List Int} (h : ns ≠ []) : mnD d ns ∈ ns ∧ ∀ y ∈ ns, mnD d ns ≤ y := by
  cases ns with
  | nil => exact absurd rfl h
  | cons n ns =>
    obtain ⟨h1, h2, h3⟩ := foldl_min n ns
    refine ⟨?_, fun y hy => ?_⟩
    · rcases h1 with h1 | h1
      · exact List.mem_cons.mpr (.inl h1)
      · exact List.mem_cons_of_mem _ h1
    · rcases List.mem_cons.mp hy with rfl | hy
      · exact h2
      · exact h3 y hy
section
variable {X : Cx}
def rMxD (K : PySem.W.Frag) (f : Int → List Int → Int) : List V → List V → Hp → VK → Prop := fun vs zs H Q => ∃ (a : Addr) (ns : List Int) (d : Int), vs = [V.ref a] ∧ zs = [.int d] ∧ SqL K H a (ns.map V.int) ∧ Q (.int (f d ns)) H
theorem ints_pd (ns : List Int) : (ns.map V.int).map pd = ns.map PyData.int := by
  rw [List.map_map]
  rfl
theorem ints_alike (ns : List Int) : PySem.W.AlikeAll (ns.map PyData.int) := by
  refine ⟨fun x hx y hy => ?_, fun x hx => ?_⟩
  · obtain ⟨a, _, rfl⟩ := List.mem_map.mp hx
    obtain ⟨b, _, rfl⟩ := List.mem_map.mp hy
    rfl
  · obtain ⟨a, _, rfl⟩ := List.mem_map.mp hx
    exact fun z => nomatch z
theorem ints_dep (ns : List Int) : PyData.depthAll (ns.map PyData.int) = 0 := by
  rw [← ints_pd]
  exact (lay_all fl_ints).2
theorem cr_maxD (hc : X.calm = true) (hu : X.A.units + 64 < cLine) : CallRK X (.builtin "max") [Str.ofString "default"] (rMxD X.K mxD) := by
  intro pins s σ H vs zs us ws Q I r rz h
  obtain ⟨a, ns, d, rfl, rfl, hs, q⟩ := h
  obtain rfl := Vals.ref1 r
  obtain ⟨w1, rfl, e1⟩ := vals1 rz
  obtain ⟨its, rv, hl, _⟩ := I.list hs
  have hd : DpAll X.K H (ns.map V.int) (ns.map PyData.int) := by rw [← ints_pd]; exact dp_all fl_ints
  obtain ⟨as, h4⟩ := Dp.readsAll I _ _ its hd rv
  refine PySem.W.max_list_default (xs := ns.map PyData.int) (I.ok.hd hc) hl.isList (by simpa using h4) (ints_alike ns) (by rw [ints_dep]; omega) (fun he h' tk hk => ?_) (fun y ys i v h' tk bs he hi hr hk => ?_)
  · have hn : ns = [] := List.map_eq_nil_iff.mp he
    subst hn
    exact ⟨.int d, H, I.kept hk, e1, q⟩
  · cases ns with
    | nil => cases he
    | cons n ns =>
      rw [List.map_cons] at he
      injection he with he1 he2
      subst he1 he2
      rw [PySem.W.maxD_ints] at hr
      cases hr
      exact ⟨.int _, H, I.kept hk, ⟨_, rfl⟩, q⟩
theorem cr_minD (hc : X.calm = true) (hu : X.A.units + 64 < cLine) : CallRK X (.builtin "min") [Str.ofString "default"] (rMxD X.K mnD) := by
  intro pins s σ H vs zs us ws Q I r rz h
  obtain ⟨a, ns, d, rfl, rfl, hs, q⟩ := h
  obtain rfl := Vals.ref1 r
  obtain ⟨w1, rfl, e1⟩ := vals1 rz
  obtain ⟨its, rv, hl, _⟩ := I.list hs
  have hd : DpAll X.K H (ns.map V.int) (ns.map PyData.int) := by rw [← ints_pd]; exact dp_all fl_ints
  obtain ⟨as, h4⟩ := Dp.readsAll I _ _ its hd rv
  refine PySem.W.min_list_default (xs := ns.map PyData.int) (I.ok.hd hc) hl.isList (by simpa using h4) (ints_alike ns) (by rw [ints_dep]; omega) (fun he h' tk hk => ?_) (fun y ys i v h' tk bs he hi hr hk => ?_)
  · have hn : ns = [] := List.map_eq_nil_iff.mp he
    subst hn
    exact ⟨.int d, H, I.kept hk, e1, q⟩
  · cases ns with
    | nil => cases he
    | cons n ns =>
      rw [List.map_cons] at he
      injection he with he1 he2
      subst he1 he2
      rw [PySem.W.minD_ints] at hr
      cases hr
      exact ⟨.int _, H, I.kept hk, ⟨_, rfl⟩, q⟩
end
end L2

set_option Elab.async false
set_option linter.all false
set_option maxRecDepth 100000
set_option maxHeartbeats 4000000
/-! a generator def of the top that keeps its promise; list(f(..)) of it -/
namespace L2
open PySem PySem.Spec PyProof.Rows GenW
section
variable {P : Program} {w : World} {K : PySem.W.Frag} {mg : Str → Option Value} {base : Heap}
structure OwnG (P : Program) (w : World) (K : PySem.W.Frag) (mg : Str → Option Value) (base : Heap) (x : Str) (k : Nat) (ps : List Str) (sp : SpG) : Prop where
  ex : ∃ (f : Addr) (fd : FuncData), GFn P w K mg base k f fd ps sp ∧ mg x = some (.ref f) ∧ PySem.W.keepIn K (.ref f) = true ∧ Binds K fd ps []
theorem DefAt.ownG {x : Str} {st : Stmt} {ps : List Str} {k : Nat} {sp : SpG} (D : DefAt K mg x st ps) (h : ∀ f fd, Fun K x x st f fd → GFn P w K mg base k f fd ps sp) : OwnG P w K mg base x k ps sp := by
  obtain ⟨f, fd, F, hm, hb⟩ := D.ex
  exact ⟨f, fd, h f fd F, hm, F.kp, hb⟩
/-- a generator def by its body -/
theorem gfn_fun {x qual : Str} {st : Stmt} {f : Addr} {fd : FuncData} {N ps : List Str} {k : Nat} {sp : SpG} (F : Fun K x qual st f fd) (S : GScope N ps (defScope st)) (len : ∀ vs H Q E, sp vs H Q E → vs.length = ps.length)
    (hbody : ∀ (cdv : Value) (A : Around) (outer : List Env) (s : Shared) (H : Hp) (vs : List V) (Q : List V → Hp → Prop) (E : XK) (pn : List (Addr × Obj)), Room k (A.deeper (envOfC qual (defScope st) s.heap.objs.size f cdv)) → sp vs H Q E →
      ∃ t, GSs (gcxOf P w K mg base N qual (defScope st) f cdv A outer s H E pn) (defBody st) t ∧ t { nx := fun ys _ H' => Q ys H', rt := fun ys v H' => v = .non ∧ Q ys H' } [] (start N vs) H) : GFn P w K mg base (k + 1) f fd ps sp := by
  obtain ⟨oc, od, kV, doc, pm, an, cdv, ct, osl, rfl, lk, hcd⟩ := F.ex
  exact gfn_of lk hcd S len fun A outer s H vs Q E pn hr hsp => hbody cdv A outer s H vs Q E pn hr hsp
end
section
variable {X : Cx} {x nm : Str} {k : Nat} {ps : List Str} {sp : SpG} {e : Expr} {es : List Expr} {t : TA} {p p2 pos pos2 : Pos}
theorem noStop0 {K : PySem.W.Frag} : NoStop K E0 := fun _ _ _ h => False.elim h
/-- list(f(e, ..)) -/
theorem pe_listOwnG (O : OwnG X.prog X.w X.K X.mg X.base x k ps sp) (hr : Room (k + 3) X.A) (ha : PA X (e :: es) t) (hmg : X.mg nm = none) (hgl : Gl X nm := by rfl) (hg : Gl X x := by rfl) (hv : bootBuiltins nm = some (.type "list") := by decide +kernel) (hnm : nm ≠ "__name__" := by decide) (hdb : (nm == ("__debug__" : Str)) = false := by decide) (hdb2 : (x == ("__debug__" : Str)) = false := by decide)
    (he : starEach (e :: es) X.env = (false, eval e X.env) :: starEach es X.env := by rfl) (hpl : (backTo pos (starEach es X.env)).any (·.1) = false := by rfl)
    (he2 : starEach [Expr.Call (.Name x p) (e :: es) [] pos] X.env = (false, eval (Expr.Call (.Name x p) (e :: es) [] pos) X.env) :: starEach [] X.env := by rfl) : PE X (.Call (.Name nm p2) [.Call (.Name x p) (e :: es) [] pos] [] pos2) (tListG (tCallG sp [] E0 t)) := by
  obtain ⟨f, fd, F, hm, hk, hb⟩ := O.ex
  exact pe_listG (pgen_call F (hr.mono (by omega)) hg hm hk hb .nil ha hdb2 he hpl) passL noStop0 hr hgl hmg hv hnm hdb he2
end
section
variable {K : PySem.W.Frag} {g : TG} {tb : TGn} {D : GEnds} {ys : List V} {σ : St} {H : Hp}
theorem gfor_range {lo : Int} {n : Nat} (Pv : Nat → List V → St → Hp → Prop) (h0 : Pv 0 ys σ H) (hs : ∀ i ys σ H, i < n → Pv i ys σ H → g (.int (lo + i)) σ H fun σ2 H2 => tb { D with nx := Pv (i + 1), ct := Pv (i + 1), bk := D.nx } ys σ2 H2) (hd : ∀ ys σ H, Pv n ys σ H → D.nx ys σ H) :
    ∃ W : Nat → Nat → List V → St → Hp → Prop, (∃ m, W 0 m ys σ H) ∧ ∀ i m ys σ H, W i m ys σ H →
      ((Itr lo n).stop i H ∧ D.nx ys σ H) ∨ ((Itr lo n).go i H ∧ ∃ N : List V → St → Hp → Prop, (∀ ys' σ' H', N ys' σ' H' → ∃ m', m' < m ∧ W (i + 1) m' ys' σ' H') ∧ ∀ x H', (Itr lo n).yld i H x H' → g x σ H' fun σ2 H2 => tb { D with nx := N, ct := N, bk := D.nx } ys σ2 H2) := by
  refine ⟨fun i m ys σ H => m = n - i ∧ i ≤ n ∧ Pv i ys σ H, ⟨n - 0, rfl, Nat.zero_le _, h0⟩, ?_⟩
  rintro i m ys σ H ⟨rfl, hi, pv⟩
  by_cases hlt : i < n
  · refine .inr ⟨hlt, Pv (i + 1), fun ys' σ' H' q => ⟨n - (i + 1), by omega, rfl, hlt, q⟩, fun x H' hy => ?_⟩
    obtain ⟨rfl, rfl⟩ := hy
    exact hs i ys σ _ hlt pv
  · have e : i = n := by omega
    subst e
    exact .inl ⟨Nat.le_refl _, hd ys σ H pv⟩
theorem gfor_list {a : Addr} {xs : List V} (Pv : Nat → List V → St → Hp → Prop) (h0 : Pv 0 ys σ H) (hl : ∀ i ys σ H, i ≤ xs.length → Pv i ys σ H → SqL K H a xs) (hs : ∀ i x ys σ H, xs[i]? = some x → Pv i ys σ H → g x σ H fun σ2 H2 => tb { D with nx := Pv (i + 1), ct := Pv (i + 1), bk := D.nx } ys σ2 H2) (hd : ∀ ys σ H, Pv xs.length ys σ H → D.nx ys σ H) :
    ∃ W : Nat → Nat → List V → St → Hp → Prop, (∃ m, W 0 m ys σ H) ∧ ∀ i m ys σ H, W i m ys σ H →
      ((Itl K a).stop i H ∧ D.nx ys σ H) ∨ ((Itl K a).go i H ∧ ∃ N : List V → St → Hp → Prop, (∀ ys' σ' H', N ys' σ' H' → ∃ m', m' < m ∧ W (i + 1) m' ys' σ' H') ∧ ∀ x H', (Itl K a).yld i H x H' → g x σ H' fun σ2 H2 => tb { D with nx := N, ct := N, bk := D.nx } ys σ2 H2) := by
  refine ⟨fun i m ys σ H => m = xs.length - i ∧ i ≤ xs.length ∧ Pv i ys σ H, ⟨xs.length - 0, rfl, Nat.zero_le _, h0⟩, ?_⟩
  rintro i m ys σ H ⟨rfl, hi, pv⟩
  have hq := hl i ys σ H hi pv
  by_cases hlt : i < xs.length
  · have hx : xs[i]? = some xs[i] := List.getElem?_eq_getElem hlt
    refine .inr ⟨⟨xs, xs[i], hq, hx⟩, Pv (i + 1), fun ys' σ' H' q => ⟨xs.length - (i + 1), by omega, rfl, hlt, q⟩, fun x H' hy => ?_⟩
    obtain ⟨rfl, hy⟩ := hy
    exact hs i x ys σ _ (hy xs hq) pv
  · have e : i = xs.length := by omega
    subst e
    exact .inl ⟨⟨xs, hq, Nat.le_refl _⟩, hd ys σ H pv⟩
theorem gfor_tup {a : Addr} {xs : List V} (Pv : Nat → List V → St → Hp → Prop) (h0 : Pv 0 ys σ H) (hl : ∀ i ys σ H, i ≤ xs.length → Pv i ys σ H → SqT K H a xs) (hs : ∀ i x ys σ H, xs[i]? = some x → Pv i ys σ H → g x σ H fun σ2 H2 => tb { D with nx := Pv (i + 1), ct := Pv (i + 1), bk := D.nx } ys σ2 H2) (hd : ∀ ys σ H, Pv xs.length ys σ H → D.nx ys σ H) :
    ∃ W : Nat → Nat → List V → St → Hp → Prop, (∃ m, W 0 m ys σ H) ∧ ∀ i m ys σ H, W i m ys σ H →
      ((Itt K a).stop i H ∧ D.nx ys σ H) ∨ ((Itt K a).go i H ∧ ∃ N : List V → St → Hp → Prop, (∀ ys' σ' H', N ys' σ' H' → ∃ m', m' < m ∧ W (i + 1) m' ys' σ' H') ∧ ∀ x H', (Itt K a).yld i H x H' → g x σ H' fun σ2 H2 => tb { D with nx := N, ct := N, bk := D.nx } ys σ2 H2) := by
  refine ⟨fun i m ys σ H => m = xs.length - i ∧ i ≤ xs.length ∧ Pv i ys σ H, ⟨xs.length - 0, rfl, Nat.zero_le _, h0⟩, ?_⟩
  rintro i m ys σ H ⟨rfl, hi, pv⟩
  have hq := hl i ys σ H hi pv
  by_cases hlt : i < xs.length
  · have hx : xs[i]? = some xs[i] := List.getElem?_eq_getElem hlt
    refine .inr ⟨⟨xs, xs[i], hq, hx⟩, Pv (i + 1), fun ys' σ' H' q => ⟨xs.length - (i + 1), by omega, rfl, hlt, q⟩, fun x H' hy => ?_⟩
    obtain ⟨rfl, hy⟩ := hy
    exact hs i x ys σ _ (hy xs hq) pv
  · have e : i = xs.length := by omega
    subst e
    exact .inl ⟨⟨xs, hq, Nat.le_refl _⟩, hd ys σ H pv⟩
end
end L2

set_option Elab.async false
set_option linter.all false
set_option maxRecDepth 100000
set_option maxHeartbeats 4000000
/-! ==, not in over data, the kit's own part named -/
namespace L2
open PySem PySem.Spec PyProof.Rows
section
variable {X : Cx} {K : PySem.W.Frag}
theorem op_eqDK (h : X.K = K) (hu : X.A.units + 64 < cLine) : OpR X (compareOp .Eq) (rEqD K) := by
  subst h
  exact op_eqD hu
theorem op_neDK (h : X.K = K) (hu : X.A.units + 64 < cLine) : OpR X (compareOp .NotEq) (rNeD K) := by
  subst h
  exact op_neD hu
theorem op_inDK (h : X.K = K) (hu : X.A.units + 65 < cLine) : OpR X (compareOp .In) (rInD K) := by
  subst h
  exact op_inD hu
theorem op_notInDK (h : X.K = K) (hu : X.A.units + 65 < cLine) : OpR X (compareOp .NotIn) (rNotInD K) := by
  subst h
  exact op_notInD hu
end
end L2

set_option Elab.async false
set_option linter.all false
/-! all, any within comprehensions: the kit's own part named -/
namespace L2
open PySem PySem.Spec PyProof.Rows
section
variable {X : Cx} {K : PySem.W.Frag}
theorem cr_allK (h : X.K = K) (hc : X.calm = true) : CallR X (.builtin "all") (rAll K) := by
  subst h
  exact cr_all hc
theorem cr_anyK (h : X.K = K) (hc : X.calm = true) : CallR X (.builtin "any") (rAny K) := by
  subst h
  exact cr_any hc
end
end L2

set_option Elab.async false
set_option linter.all false
set_option maxRecDepth 100000
set_option maxHeartbeats 4000000
/-! own errors with one field whose own base is OverflowError -/
namespace L2
open PySem PySem.Spec PyProof.Rows
open Builtin Builtin.ObjectAttr PySem.W PySem.HandSPX
/-- what stands behind the class itself -/
abbrev ofBack : List Value := [.type "OverflowError", .type "ArithmeticError", .type "Exception", .type "BaseException", .type "object"]
theorem of_calm (self : Value) (C : Addr) : refuseLoop self "__setattr__" (.ref C :: ofBack) = pure () := by
  rw [refuseLoop_ref]
  exact PySem.F.store_OverflowError.passes self
theorem of_has (Y : String) (C : Addr) : (Value.ref C :: ofBack).contains (.type Y) = ofBack.contains (.type Y) := by
  rw [List.contains_cons]
  rfl
section
variable {prog : Program} {w : World} {A : Around} {R : Result → Shared → Prop} {hp : Heap} {g : Array GenState} {d : Drawn} {t : Nat} {os : OsState}
/-- the first field of such an error -/
theorem of_first {K : Frag} {nm : Str} {tk : Tok} {val : Value} {a C : Addr} {parts : Array Value} {cd : ClassData}
    (inK : K.In hp) (at_a : hp.get? a = some { cls := .ref C, data := .fields parts }) (at_C : clsIn K C = some cd) (line : cd.mro = .ref C :: ofBack) (dct : cd.hasDict = true) (free : findIn K (.ref C) nm = some none)
    (goal : ∀ hp2 tk2 dx, (∀ b o, b ≠ a → hp.get? b = some o → hp2.get? b = some o) → hp.objs.size ≤ dx → dx ≠ a → hp2.get? a = some { cls := .ref C, dict := some dx, data := .fields parts } →
      hp2.Ns1 dx (fun y => if y = nm then some val else none) → R (.ok (.ret .none)) ⟨hp2, g, d, tk2, os⟩) :
    codeAny (model prog w) A (.call (.builtin "object.__setattr__") ⟨[.ref a, .str nm tk, val], []⟩) R ⟨hp, g, d, t, os⟩ := by
  have here : InstAt hp a { cls := .ref C, data := .fields parts } C none := ⟨at_a, rfl, rfl, trivial⟩
  have facts := F.store_object
  have full : cd.mro.isEmpty = false := by rw [line]; rfl
  have top : cd.mro.contains (.type "object") = true := by rw [line, of_has]; decide +kernel
  have off : a ≠ hp.objs.size := Nat.ne_of_lt (Heap.lt_size at_a)
  have isObj : Looks (model prog w) hp (isInstance (.ref a) (.type "object")) true :=
    here.type.andThen (looks_mroIn inK (by unfold mroIn; rw [at_C, Option.bind_some, if_neg (by rw [full]; decide), top]))
  refine codeAny_call_builtin facts.slot.plain facts.entry
    (@check_slot (model prog w) _ _ ⟨hp, g, d, t, os⟩ "object.__setattr__" "object" "__setattr__" (.ref a) [.str nm tk, val] [] _ facts.kind facts.split isObj (facts.args (.ref a) (.str nm tk) val) ?_)
  have mroL : Looks (model prog w) hp (mroOf (.ref C)) cd.mro := (looks_clsIn inK at_C).andThen .now
  have taker : Looks (model prog w) hp (storeTaker? none) none := .now
  have data : Looks (model prog w) hp (classData C) cd := looks_clsIn inK at_C
  rw [osa_eq, refuse_eq]
  refine wpAny_bind (wpAny_bind (here.type.at (wpAny_bind (mroL.at ?_))))
  rw [line, of_calm]
  refine wpAny_pure (wpAny_bind (here.type.at (wpAny_bind ((looks_findIn inK free).at (wpAny_bind (taker.at ?_))))))
  show wpAny _ _ (storeInOwnDict (.ref a) (.ref C) (.str nm tk) nm val false) _ _ _
  obtain ⟨c1, c2, c3, c4, c5, c6, c7, c8, c9, c10, c11⟩ := cd
  dsimp only at dct
  subst dct
  unfold storeInOwnDict ownDictForStores
  repeat (first | with_reducible refine store_in_new ?_ ?_ | with_reducible refine wpAny_loadPart_at at_a ?_ | with_reducible refine data.at ?_ | wp_step)
  · exact ⟨_, #[], _, (Heap.get?_update_ne _ _ _ _ off.symm).trans (Heap.get?_push_at rfl rfl), rfl, fun e he => absurd he (by simp), fun _ => rfl⟩
  · intro hp2 tk2 ns2 same
    have at_a2 : (hp.push { cls := .type "dict", data := .dict #[] }).get? a = some { cls := .ref C, data := .fields parts } := Heap.get?_push_of_some _ at_a
    refine goal hp2 tk2 hp.objs.size (fun b o hb ho => ?_) (Nat.le_refl _) off.symm ?_ ns2
    · exact (same.2 b (Nat.ne_of_lt (Heap.lt_size ho))).trans ((Heap.get?_update_ne _ _ _ _ hb).trans (Heap.get?_push_of_some _ ho))
    · exact (same.2 a off).trans (Heap.get?_update_self _ at_a2 rfl)
end
/-- what the top has of such a class -/
structure OofC (K : PySem.W.Frag) (C : Addr) : Prop where
  cls : ∃ nm q N bs sn sub ab col dd k0 k1 k2 k3 k5, K.lookup C = some (excClassObj nm q C N bs ofBack true sn sub ab col dd k0 k1 k2 k3 k5 "OverflowError.__new__")
  sa : findIn K (.ref C) "__setattr__" = some (some (.builtin "object.__setattr__"))
  exC : subIn K (.ref C) (.type "BaseException") = some true
  tyC : typeIn K (.ref C) = some (.type "type")
  kC : keepIn K (.ref C) = true
section
variable {X : Cx} {pins : List (Addr × Obj)} {σ : St} {H : Hp} {s : Shared} {a C : Addr} {f : Str} {y : V} {u : Value} {Q : Unit → Shared → Prop} {E : Value → Shared → Prop} {A : Around}
theorem of_store (T : OofC X.K C) (I : Inv X pins σ H s) (e : H a = some (exo a C none)) (free : findIn X.K (.ref C) f = some none) (ry : RelV y u)
    (goal : ∀ dx s', H dx = none → dx ≠ a → Inv X pins σ (upd (upd H dx (exd dx [(f, y)])) a (exo a C (some dx))) s' → Q () s') : wpAny (model X.prog X.w) A (setAttr (.ref a) f u) Q E s := by
  obtain ⟨nm, q, N, bs, sn, sub, ab, col, dd, k0, k1, k2, k3, k5, at_C⟩ := T.cls
  have data : clsIn X.K C = some { name := nm, bases := bs, mro := .ref C :: ofBack, ns := N, qualname := q, hasDict := true, slotNames := sn, subclasses := sub, abstract := ab, collection := col, hasDel := false } := by
    unfold clsIn
    rw [at_C] <;> rfl
  obtain ⟨t1, ho⟩ := exo_at I.hok e
  obtain ⟨hp, g, d, t, os⟩ := s
  refine set_plain I.kIn (ox := { cls := .ref C, dict := none, data := .fields #[.ref t1, .none, .none, .none, .bool false, .none] }) (od := none) ⟨ho, rfl, rfl, trivial⟩ T.sa ?_
  refine of_first I.kIn ho data rfl rfl free fun hp2 tk2 dx k far ne at_a ns2 => ?_
  have none_dx : H dx = none := I.hok.fresh far
  have old : ∀ {b : Addr} {o : Obj}, hp.get? b = some o → b ≠ dx := fun {b o} z => Nat.ne_of_lt (Nat.lt_of_lt_of_le (Heap.lt_size z) far)
  have other : ∀ {b : Addr}, H b = none → b ≠ a := fun {b} z w => by
    rw [w, e] at z
    cases z
  have U : Un X.fs [] H (upd (upd H dx (exd dx [(f, y)])) a (exo a C (some dx))) hp hp2 :=
    ⟨fun b o z n _ _ => k b o (other n) z, fun b o z n _ _ => ⟨o.slots, k b o (other n) z⟩, fun b o z n _ => by rw [upd_ne (other n), upd_ne (old z)]; exact n,
      fun b o z _ => by
        by_cases hb : b = a
        · rw [hb]
          exact ⟨_, at_a⟩
        · exact ⟨o, k b o hb z⟩,
      fun b xs z => by rw [upd_ne (at_ne e z exo_tup), upd_ne (ne_of_none z none_dx)]; exact z,
      fun b o v z => by rw [upd_ne (at_ne e z exo_frz), upd_ne (ne_of_none z none_dx)]; exact z,
      fun b ps z => ⟨#[], by rw [upd_ne (at_ne e z exo_tbl), upd_ne (ne_of_none z none_dx), z]; simp⟩⟩
  refine goal dx _ none_dx ne (I.un (t' := tk2) U fun b o z => ?_)
  by_cases hb : b = a
  · subst hb
    rw [upd_same] at z
    cases z
    exact exo_ok at_a
  · rw [upd_ne hb] at z
    by_cases hd : b = dx
    · subst hd
      rw [upd_same] at z
      cases z
      exact exd_ok ns2 (relO_put (fs := []) ry fun _ => True.intro)
    · rw [upd_ne hd] at z
      refine (I.hok b o z).stay (fun c v hc w => k c v ?_ w) (fun c hc => ?_) fun c xs hc => ?_
      · rcases hc with hc | hc
        · rw [hc]
          exact hb
        · exact at_ne e hc exo_own
      · rw [upd_ne (at_ne e hc exo_own), upd_ne (ne_of_none hc none_dx)]
        exact hc
      · rw [upd_ne (at_ne e hc exo_tup), upd_ne (ne_of_none hc none_dx)]
        exact hc
end
/-- self.f = e, the one field -/
def tOstO (K : PySem.W.Frag) (f : Str) (to te : TE) : TS := fun D σ H => te σ H fun y H1 => to σ H1 fun x H2 => ∃ a C : Addr, x = .ref a ∧ OofC K C ∧ findIn K (.ref C) f = some none ∧
  H2 a = some (exo a C none) ∧ ∀ dx, H2 dx = none → dx ≠ a → D.nx σ (upd (upd H2 dx (exd dx [(f, y)])) a (exo a C (some dx)))
section
variable {X : Cx} {o e : Expr} {es : List Expr} {to te : TE} {ta : TA} {f : Str} {p p' pos : Pos}
theorem ps_ostO (ho : PE X o to) (he : PE X e te) (hs : swapsWith e (some (.Attribute o f p')) pos.line X.env = pure false := by rfl) : PS X (.Assign [.Attribute o f p'] e pos) (tOstO X.K f to te) := by
  refine ⟨fun pins s σ H D I h => ?_⟩
  refine plainObj_wpAny_Assign_Attribute (thn (he.run pins s σ H _ I h) fun v s1 ⟨y, H1, I1, r1, q1⟩ => thn (ho.run pins s1 σ H1 _ I1 q1) fun u s2 ⟨x, H2, I2, r2, a, C, ex, T, free, ea, q⟩ => ?_) hs
  subst ex
  obtain rfl : u = Value.ref a := r2
  exact of_store T I2 ea free r1 fun dx s' n ne J => ⟨σ, _, J, q dx n ne⟩
/-- C(e, ..) of such a class -/
theorem pmk_oof {CX : CXT} {x : Str} {C fI : Addr} {k : Nat} {fd : FuncData} {ps : List Str} {sp : Sp} {ds : List Value} {dvs : List V} (T : OofC X.K C) (hasI : findIn X.K (.ref C) "__init__" = some (some (.ref fI))) (isF : typeIn X.K (.ref fI) = some (.type "function"))
    (G : FnOk X.prog X.w X.K X.mg X.base CX k fI fd ps sp) (room : Room (k + 1) X.A) (bind : Binds X.K fd ps ds) (dflt : Vals dvs ds) (pass : Passes CX X (fun _ _ _ => False)) (hg : Gl X x) (hm : X.mg x = some (.ref C)) (ha : PA X (e :: es) ta)
    (hdb : (x == ("__debug__" : Str)) = false := by decide) (he : starEach (e :: es) X.env = (false, eval e X.env) :: starEach es X.env := by rfl) (hpl : (backTo pos (starEach es X.env)).any (·.1) = false := by rfl) :
    PMk X (.Call (.Name x p) (e :: es) [] pos) (tMkO C sp dvs ta) := by
  intro pins s σ H Q I h
  obtain ⟨nm, q, N, bs, sn, sub, ab, col, dd, k0, k1, k2, k3, k5, at_C⟩ := T.cls
  refine wpAny_Call_Name_kw (ld_glob I hg hm ?_ hdb)
  refine callWith_K (h₀ := X.base) I.ok.mod.kin T.kC (thn (ha.run pos pins s σ H _ I h) fun us s1 ⟨vs, H1, I1, r1, hz, q1⟩ => ⟨I1.kIn, ?_⟩) he hpl
  show wpAny _ _ (call (.ref C) us) _ _ _
  obtain ⟨hp, g, dr, tk, os⟩ := s1
  have up1 : hp.objs.size ≤ hp.objs.size + 1 := Nat.le_succ _
  have free1 : H1 (hp.objs.size + 1) = none := I1.hok.fresh up1
  have want := q1 (hp.objs.size + 1) free1
  have kk : ∀ b o, hp.get? b = some o → ((hp.push (kdv_tup us)).push (excO C hp.objs.size)).get? b = some o := fun b o z => Heap.get?_push_of_some _ (Heap.get?_push_of_some _ z)
  have there : ((hp.push (kdv_tup us)).push (excO C hp.objs.size)).get? (hp.objs.size + 1) = some (excO C hp.objs.size) := by heap_get
  have I2 : Inv X pins σ (upd H1 (hp.objs.size + 1) (exo (hp.objs.size + 1) C none)) ⟨(hp.push (kdv_tup us)).push (excO C hp.objs.size), g, dr, tk, os⟩ :=
    I1.laid (t' := tk) (a := hp.objs.size + 1) (o := exo (hp.objs.size + 1) C none) (h' := (hp.push (kdv_tup us)).push (excO C hp.objs.size)) kk up1 (exo_ok there)
  have r2 : Vals (V.ref (hp.objs.size + 1) :: (vs ++ dvs)) (Value.ref (hp.objs.size + 1) :: (us ++ ds)) := .cons rfl (r1.append dflt)
  have many : (Value.ref (hp.objs.size + 1) :: us ++ ds).length = ps.length := by
    have z := r2.length
    rw [G.len _ _ _ _ want] at z
    exact z.symm
  have small : us.length ≤ sizeLine := by
    rw [← Paired.length r1, sizeLine_eq]
    omega
  refine wpAny_call (call_own F.excBase_OverflowError (fun Y => rfl) (I1.kIn _ _ at_C) (looks_findIn I1.kIn hasI) (fun self => bind_fn I1.kIn self isF) small
    (codeAny_mono (G.run _ X.stack _ _ ⟨Value.ref (hp.objs.size + 1) :: us, []⟩ (Value.ref (hp.objs.size + 1) :: (us ++ ds)) _ _ (fun _ _ _ => False) (room.make C us []) (I2.env0.make C us []) (bind _ (Value.ref (hp.objs.size + 1) :: us) I2.kIn many) r2 want) fun r s' hq' => ?_))
  cases r with
  | error er => exact pass pins σ _ _ er s' I2 hq'
  | ok fl =>
    cases fl with
    | ret u =>
      obtain ⟨v, H2, os2, bare2, un2, hok2, rv, ev, dd, fs, ea, ed, hd1, q2⟩ := hq'
      subst ev
      obtain ⟨h2, g2, d2, t2, os'⟩ := s'
      exact ⟨rv, mk_end (raises_own T.exC T.tyC) I1 up1 kk un2 hok2 os2 bare2 ea ed hd1 q2⟩
    | next => exact False.elim hq'
    | brk => exact False.elim hq'
    | cont => exact False.elim hq'
end
/-- all that is asked of the class x of such errors at C, whose field is f -/
structure OCls (P : Program) (w : World) (K : PySem.W.Frag) (mg : Str → Option Value) (base : Heap) (x f : Str) (C : Addr) : Prop where
  ox : OofC K C
  gC : mg x = some (.ref C)
  noA : findIn K (.ref C) f = some none
  ec : ExcC K C
  ini : ∃ (fI : Addr) (fd : FuncData), findIn K (.ref C) "__init__" = some (some (.ref fI)) ∧ typeIn K (.ref fI) = some (.type "function") ∧ FnOk P w K mg base CX0 1 fI fd ["self", f] (spXI C f) ∧ Binds K fd ["self", f] []
theorem OCls.xf {P : Program} {w : World} {K : PySem.W.Frag} {mg : Str → Option Value} {base : Heap} {x f : Str} {C : Addr} (T : OCls P w K mg base x f C) : XfC K C := ⟨T.ec.hg, T.ec.hk, T.ec.hs, T.ec.hd⟩
theorem pmk_O {X : Cx} {C : Addr} {x f : Str} {e : Expr} {te : TE} {p pos : Pos} (T : OCls X.prog X.w X.K X.mg X.base x f C) (room : Room 2 X.A) (he : PE X e te) (hg : Gl X x) (hdb : (x == ("__debug__" : Str)) = false := by decide)
    (hs : starEach [e] X.env = (false, eval e X.env) :: starEach [] X.env := by rfl) (hpl : (backTo pos (starEach [] X.env)).any (·.1) = false := by rfl) :
    PMk X (.Call (.Name x p) [e] [] pos) (tMkO C (spXI C f) [] (tCons te tNil)) := by
  obtain ⟨fI, fd, i1, i2, G, b⟩ := T.ini
  exact pmk_oof (dvs := []) (ds := []) T.ox i1 i2 G room b .nil pass0 hg T.gC (pa_cons he pa_nil hs) hdb hs hpl
/-- what the top has written of it -/
structure XOt (K : PySem.W.Frag) (mg : Str → Option Value) (x f : Str) (C : Addr) (st : Stmt) (qual : Str) : Prop where
  ox : OofC K C
  gC : mg x = some (.ref C)
  noA : findIn K (.ref C) f = some none
  ec : ExcC K C
  tI : ∃ fI, findIn K (.ref C) "__init__" = some (some (.ref fI)) ∧ typeIn K (.ref fI) = some (.type "function") ∧ ∃ fd, Fun K "__init__" qual st fI fd ∧ Binds K fd ["self", f] []
theorem XOt.cls {P : Program} {w : World} {K : PySem.W.Frag} {mg : Str → Option Value} {base : Heap} {x f : Str} {C : Addr} {st : Stmt} {qual : Str} (T : XOt K mg x f C st qual) (h : ∀ fI fd, Fun K "__init__" qual st fI fd → FnOk P w K mg base CX0 1 fI fd ["self", f] (spXI C f)) :
    OCls P w K mg base x f C := by
  obtain ⟨fI, i1, i2, fd, G, b⟩ := T.tI
  exact ⟨T.ox, T.gC, T.noA, T.ec, fI, fd, i1, i2, h fI fd G, b⟩
end L2

set_option Elab.async false
set_option linter.all false
set_option maxRecDepth 100000
/-! the bookkeeping of a walk over a list, whatever a turn's reading is -/
namespace L2
open PySem PySem.Spec PyProof.Rows
theorem steps_list {K : PySem.W.Frag} {a : Addr} {xs : List V} {H0 : Hp} {Qd : Hp → Prop} {step : V → Hp → (Hp → Prop) → Prop} (Pv : Nat → Hp → Prop) (h0 : Pv 0 H0) (hl : ∀ i H, i ≤ xs.length → Pv i H → SqL K H a xs)
    (hs : ∀ i x H, xs[i]? = some x → Pv i H → step x H (Pv (i + 1))) (hd : ∀ H, Pv xs.length H → Qd H) :
    ∃ W : Nat → Nat → Hp → Prop, (∃ m, W 0 m H0) ∧ ∀ i m H, W i m H →
      ((Itl K a).stop i H ∧ Qd H) ∨ ((Itl K a).go i H ∧ ∃ N : Hp → Prop, (∀ H', N H' → ∃ m', m' < m ∧ W (i + 1) m' H') ∧ ∀ x H', (Itl K a).yld i H x H' → step x H' N) := by
  refine ⟨fun i m H => m + i = xs.length ∧ Pv i H, ⟨xs.length, rfl, h0⟩, ?_⟩
  rintro i m H ⟨hm, pv⟩
  have q := hl i H (by omega) pv
  rcases Nat.lt_or_ge i xs.length with h | h
  · have hx : xs[i]? = some xs[i] := List.getElem?_eq_getElem h
    refine .inr ⟨⟨xs, xs[i], q, hx⟩, Pv (i + 1), fun H' pv' => ⟨m - 1, by omega, by omega, pv'⟩, fun x H' y => ?_⟩
    obtain ⟨y1, y2⟩ := y
    subst y1
    exact hs i x _ (y2 xs q) pv
  · obtain rfl : i = xs.length := by omega
    exact .inl ⟨⟨xs, q, Nat.le_refl _⟩, hd H pv⟩
def rLenK (K : PySem.W.Frag) : List V → Hp → VK → Prop := fun xs H Q => ∃ p ys, xs = [.ref p] ∧ (SqL K H p ys ∨ SqT K H p ys) ∧ Q (.int ys.length) H
theorem call_len_seqK {X : Cx} {K : PySem.W.Frag} (h : X.K = K) : CallR X (.builtin "len") (rLenK K) := by
  subst h
  exact call_len_seq
end L2

set_option Elab.async false
set_option linter.all false
set_option maxRecDepth 100000
set_option maxHeartbeats 4000000
/-! list(f(..)) of a generator def that may raise, in a try -/
namespace L2
open PySem PySem.Spec PyProof.Rows GenW
def tListGS (tg : XK → TGen) (E : St → XK) : TE := fun σ H Q => tg (E σ) σ H fun out H2 => ∀ p, H2 p = none → Q (.ref p) (upd H2 p (.lst out))
section
variable {X : Cx} {k : Nat} {p p2 pos pos2 : Pos} {e : Expr} {x nm : Str} {es : List Expr}
theorem pe_listGS {tg : XK → TGen} {E : St → XK} (made : ∀ E, PGen X k e (tg E) E) (pass : ∀ σ, PassesAt (CX X.prog X.w) X σ (E σ)) (nostop : ∀ σ, NoStop X.K (E σ)) (room : Room (k + 3) X.A) (hg : Gl X nm) (hmg : X.mg nm = none) (hv : bootBuiltins nm = some (.type "list"))
    (hnm : nm ≠ "__name__" := by decide) (hdb : (nm == ("__debug__" : Str)) = false := by decide) (he : starEach [e] X.env = (false, eval e X.env) :: starEach [] X.env := by rfl) : PE X (.Call (.Name nm p) [e] [] pos) (tListGS tg E) := by
  refine ⟨fun pins st σ H Q I want => ?_⟩
  refine wpAny_Call_Name_kw (ld_blt I hg hmg hv ?_ hnm hdb)
  refine PyProof.Rows.callWith_type1 ?_ he rfl
  rw [he]
  show wpAny _ _ (spliced ((false, eval e X.env) :: backTo pos (starEach [] X.env))) _ _ st
  refine Calls.spliced_cons (thn ((made (E σ)).run pins st σ H _ I want) fun u st1 ⟨H1, sc, ex, I1, exOk, gen⟩ => ?_)
  refine Calls.spliced_nil ?_
  have grown : sc.heap.objs.size ≤ st1.heap.objs.size := by
    obtain ⟨a, g, c, _, g1, g2, _⟩ := gen
    exact Nat.le_trans g1 (Nat.le_of_lt g2)
  refine call_list_new room I1.ok.frames gen (fun S st2 acc c H' ys a0 a1 a2 a3 a4 a5 a6 a7 a8 a9 => ?_) fun er st2 g left => ?_
  · exact ⟨.ref S, upd H' S (.lst ys), I1.drained (Nat.le_trans grown a0) a3 a1 a2 exOk a4 a5 a6 a7 a8, rfl, a9 S a8⟩
  · have kin : X.K.In st2.heap := by
      obtain ⟨a, B, H', cls, d, _, fl, _, ub, _⟩ := id left
      refine I1.ok.mod.kin.keeps fun b o eb => fl.1 b o (ub.keep b o (I1.bs b o eb).1 (I1.bs b o eb).2 fun hm => ?_)
      rcases List.mem_cons.mp (I1.stkSub b hm) with z | z
      · have z1 := Heap.lt_size eb
        have z2 := Nat.le_trans I1.ok.bsz I1.ok.above
        rw [z] at z1
        exact absurd (Nat.lt_of_lt_of_le z1 z2) (Nat.lt_irrefl _)
      · exact I1.ok.nofr eb z
    refine ⟨notStop_of (nostop σ) kin left, pass σ pins H1 sc er _ I1 ?_⟩
    obtain ⟨a, B, H', cls, d, z1, fl, z2, ub, z3, z4, z5, z6⟩ := left
    exact ⟨a, B, H', cls, d, z1, fl, z2, ub, z3, z4, allBare_setGen z5 rfl, z6⟩
/-- what is wished for, of errors that are no StopIteration -/
def noStopW (K : PySem.W.Frag) (W : WX) : WX := fun cls d σ H => PySem.W.subIn K cls (.type "StopIteration") = some false ∧ W cls d σ H
theorem pe_listOwnGS {ps : List Str} {sp : SpG} {t : TA} {W : WX} (O : OwnG X.prog X.w X.K X.mg X.base x k ps sp) (room : Room (k + 3) X.A) (tk : Takes X W) (ha : PA X (e :: es) t) (hmg : X.mg nm = none) (hgl : Gl X nm := by rfl) (hg : Gl X x := by rfl) (hv : bootBuiltins nm = some (.type "list") := by decide +kernel)
    (hnm : nm ≠ "__name__" := by decide) (hdb : (nm == ("__debug__" : Str)) = false := by decide) (hdb2 : (x == ("__debug__" : Str)) = false := by decide)
    (he : starEach (e :: es) X.env = (false, eval e X.env) :: starEach es X.env := by rfl) (hpl : (backTo pos (starEach es X.env)).any (·.1) = false := by rfl)
    (he2 : starEach [Expr.Call (.Name x p) (e :: es) [] pos] X.env = (false, eval (Expr.Call (.Name x p) (e :: es) [] pos) X.env) :: starEach [] X.env := by rfl) :
    PE X (.Call (.Name nm p2) [.Call (.Name x p) (e :: es) [] pos] [] pos2) (tListGS (fun E => tCallG sp [] E t) (WE (noStopW X.K W))) := by
  obtain ⟨f, fd, F, hm, hk, hb⟩ := O.ex
  exact pe_listGS (fun E => pgen_call (E := E) F (room.mono (by omega)) hg hm hk hb .nil ha hdb2 he hpl) (fun σ => passAt (tk.imp fun _ _ _ _ h => h.2) σ) (fun σ cls d H h => h.1) room hgl hmg hv hnm hdb he2
theorem pe_listOwnGSK {K : PySem.W.Frag} {ps : List Str} {sp : SpG} {t : TA} {W : WX} (hK : X.K = K) (O : OwnG X.prog X.w X.K X.mg X.base x k ps sp) (room : Room (k + 3) X.A) (tk : Takes X W) (ha : PA X (e :: es) t) (hmg : X.mg nm = none) (hgl : Gl X nm := by rfl) (hg : Gl X x := by rfl) (hv : bootBuiltins nm = some (.type "list") := by decide +kernel)
    (hnm : nm ≠ "__name__" := by decide) (hdb : (nm == ("__debug__" : Str)) = false := by decide) (hdb2 : (x == ("__debug__" : Str)) = false := by decide)
    (he : starEach (e :: es) X.env = (false, eval e X.env) :: starEach es X.env := by rfl) (hpl : (backTo pos (starEach es X.env)).any (·.1) = false := by rfl)
    (he2 : starEach [Expr.Call (.Name x p) (e :: es) [] pos] X.env = (false, eval (Expr.Call (.Name x p) (e :: es) [] pos) X.env) :: starEach [] X.env := by rfl) :
    PE X (.Call (.Name nm p2) [.Call (.Name x p) (e :: es) [] pos] [] pos2) (tListGS (fun E => tCallG sp [] E t) (WE (noStopW K W))) := by
  subst hK
  exact pe_listOwnGS O room tk ha hmg hgl hg hv hnm hdb hdb2 he hpl he2
end
section
variable {X : Cx} {K : PySem.W.Frag}
theorem op_ltTK (h : X.K = K) (hu : X.A.units < cLine) : OpR X (compareOp .Lt) (rLtT K) := by
  subst h
  exact op_ltT hu
end
end L2

set_option Elab.async false
set_option linter.all false
set_option maxRecDepth 100000
set_option maxHeartbeats 4000000
/-! set(list of ints) as a value; a tuple read backwards -/
namespace L2
open PySem PySem.Spec PyProof.Rows
section
variable {P : Program} {w : World} {A : Around} {E : Value → Shared → Prop} {s : Shared}
/-- the object that set(..) begins with -/
abbrev bareSet (w : World) : Obj := { cls := .type "set", dict := none, data := .set #[] 0 (.fresh 0 0 (!w.params.followText "set-order")) }
theorem set_of_list {l : Addr} {items : Array Value} (ns : List Int) {Q : Value → Shared → Prop} (calm : A.handled = none) (isL : s.heap.IsList l items) (areI : IntsAre items.toList ns) (few : ns.length + 1 < scanBound)
    (goal : ∀ (hp : Heap) (tk c : Nat), SetR w hp s.heap.objs.size (fun j => decide (j ∈ ns)) c → c ≤ ns.length → (∀ b o, s.heap.get? b = some o → hp.get? b = some o) → Q (.ref s.heap.objs.size) { s with heap := hp, toks := tk }) :
    wpAny (model P w) A (call (.type "set") [.ref l]) Q E s := by
  have same : items.size = ns.length := by
    have z := IntsAre.length areI
    rw [Array.length_toList] at z
    exact z
  obtain ⟨c, tl, mroS⟩ := F.called_set.mro
  have madeS := F.called_set.made
  have subS := F.called_set.sub
  refine wpAny_call (codeAny_of_tree ?_)
  show wpAny _ _ (callAny (.type "set") _) _ _ _
  refine wpAny_pure ⟨Code.quiet_builtin _ (by decide +kernel), codeAny_builtin F.entry_type_call ?_⟩
  rw [Around.under_plain (weight_type_call_type "set" [.ref l] []) rfl]
  have noT := F.called_set.notType
  have canC := F.called_set.canCreate
  have tcs := F.typeCall_set_1 (.ref l)
  repeat (any_goals (first | assumption | wp_step))
  refine codeAny_mono (code_set_led1 (.ref l) (E := E) (Q₁ := fun v st => v = .ref s.heap.objs.size ∧ st = { s with heap := s.heap.push (bareSet w) }) ⟨rfl, rfl⟩) fun r st back => ?_
  cases r with
  | error e => exact back
  | ok fl =>
    cases fl with
    | next => exact back.elim
    | brk => exact back.elim
    | cont => exact back.elim
    | ret v =>
      obtain ⟨rfl, rfl⟩ := back
      have atS : (s.heap.push (bareSet w)).get? s.heap.objs.size = some (bareSet w) := Heap.get?_push_size _ rfl
      have tyS : Shared.TypeIs { s with heap := s.heap.push (bareSet w) } (.ref s.heap.objs.size) "set" := ⟨_, atS, rfl⟩
      have iniL := F.called_set.init.lookup
      have iniB := F.called_set.init.bind (.ref s.heap.objs.size)
      repeat (any_goals (first | assumption | wp_step))
      refine codeAny_mono (codeAny_call_builtin (R := wants (fun r st2 => r = .none ∧ ∃ hp tk c, st2 = { s with heap := hp, toks := tk } ∧ SetR w hp s.heap.objs.size (fun j => decide (j ∈ ns)) c ∧ c ≤ ns.length ∧
        (∀ b o, s.heap.get? b = some o → hp.get? b = some o)) E) F.called_set.init.plain F.entry_set_init (check_set_init_1 tyS ?_)) fun r2 st2 back2 => ?_
      · obtain ⟨ol, atL, clL, nl, daL⟩ := isL
        obtain ⟨o1, o2, o3, o4⟩ := ol
        simp only at clL daL
        subst clL; subst daL
        have atL2 : (s.heap.push (bareSet w)).get? l = some { cls := .type "list", dict := o2, data := .seq items nl, slots := o4 } := Heap.get?_push_of_some _ atL
        have sub1 := F.sub_list_set
        have sub2 := F.sub_list_frozenset
        have ne1 : (Value.type "list" == Value.type "dict") = false := by decide
        have isL2 : (s.heap.push (bareSet w)).IsList l items := ⟨_, atL2, rfl, nl, rfl⟩
        unfold Builtin.«set.__init__» noKeywords Builtin.Frozenset.updateFrom
        generalize hold : pyIter = PI
        wp_walk
        subst hold
        refine wpAny_pyIter_list isL2 ?_
        refine wpAny_bind (wpAny_runValue ?_)
        have below : l < s.heap.objs.size := Heap.lt_size atL
        have calm3 : A.in1.in1.in1.handled = none := by simp [calm]
        have apart : l ≠ (s.heap.push (bareSet w)).objs.size := by
          rw [Heap.size_push]
          exact Nat.ne_of_lt (Nat.lt_succ_of_lt below)
        have outside : s.heap.objs.size ∉ [(s.heap.push (bareSet w)).objs.size, l] := by
          rw [Heap.size_push]
          simp only [List.mem_cons, List.mem_singleton, List.not_mem_nil, or_false, not_or]
          exact ⟨Nat.ne_of_lt (Nat.lt_succ_self _), Nat.ne_of_gt below⟩
        have each : ∀ (i : Nat) (v : Value), items[i]? = some v → ∃ k t, ns[i]? = some k ∧ v = .int k t := fun i v hv => by
          have hi : i < ns.length := by rw [← same]; exact (Array.getElem?_eq_some_iff.mp hv).1
          obtain ⟨t, e⟩ := PyProof.Rows.IntsAre.int_at areI i v (by rw [Array.getElem?_toList]; exact hv)
          refine ⟨ns[i], t, List.getElem?_eq_getElem hi, ?_⟩
          rw [e, List.getD_eq_getElem?_getD, List.getElem?_eq_getElem hi] <;> rfl
        refine set_update_ints ((Walks.list calm3 _ l apart items).toS) s.heap.objs.size outside ns same few each (items.size - 0) 0 _ (by omega) (Nat.zero_le _) ⟨⟨_, Heap.get?_push_size _ rfl, rfl, rfl⟩, (isL2.push _)⟩ ?begin ?done
        case begin => exact ⟨0, Nat.le_refl 0, setR_new_at (Heap.get?_push_of_some _ atS)⟩
        case done =>
          intro st3 c3 mv lec isS
          obtain ⟨hp, g3, d3, tk, os3⟩ := st3
          have eg : g3 = s.gens := mv.gens
          have ed : d3 = s.drawn := mv.drawn
          have eo : os3 = s.os := mv.os
          subst eg; subst ed; subst eo
          show wpAny _ _ _ _ _ _
          refine wpAny_pure ?_
          show wpAny _ _ (ret Value.none) _ _ _
          rw [same] at lec
          refine wpAny_pure ⟨rfl, hp, tk, c3, rfl, isS, lec, fun b o e => ?_⟩
          have b0 : b < s.heap.objs.size := Heap.lt_size e
          have b2 : b ≠ (s.heap.push (bareSet w)).objs.size := by
            rw [Heap.size_push]
            exact Nat.ne_of_lt (Nat.lt_succ_of_lt b0)
          exact mv.heap b o (by simp only [List.mem_cons, List.mem_singleton, List.not_mem_nil, or_false, not_or]; exact ⟨Nat.ne_of_lt b0, b2⟩) (Heap.get?_push_of_some _ (Heap.get?_push_of_some _ e))
      · cases r2 with
        | error e => exact back2
        | ok fl2 =>
          cases fl2 with
          | next => exact back2.elim
          | brk => exact back2.elim
          | cont => exact back2.elim
          | ret r =>
            obtain ⟨rfl, hp, tk, c3, rfl, isS, lec, keep⟩ := back2
            repeat (any_goals (first | assumption | wp_step))
            exact goal _ _ _ isS lec keep
end
def rSetLI (K : PySem.W.Frag) (w : World) : List V → Hp → VK → Prop := fun xs H Q => ∃ (l : Addr) (ns : List Int), xs = [.ref l] ∧ SqL K H l (ns.map V.int) ∧ ns.length ≤ 60 ∧ ∀ p c, H p = none → c ≤ ns.length → Q (.ref p) (upd H p (SetO w p (fun j => decide (j ∈ ns)) c))
theorem cr_setLI {X : Cx} (hc : X.calm = true) : CallR X (.type "set") (rSetLI X.K X.w) := by
  intro pins s σ H xs us Q I r h
  obtain ⟨l, ns, rfl, hq, small, q⟩ := h
  obtain ⟨u, rfl, rx⟩ := vals1 r
  cases rx
  obtain ⟨its, r2, pl, _⟩ := I.list hq
  refine set_of_list ns (I.ok.hd hc) pl.isList (by simpa using intsAre_of r2) (by unfold scanBound; omega) fun hp tk c isS lec keep => ?_
  exact ⟨.ref s.heap.objs.size, _, I.laid (t' := tk) keep (Nat.le_refl _) (setO_new isS), rfl, q _ c (I.hok.fresh (Nat.le_refl _)) lec⟩
end L2

set_option Elab.async false
set_option linter.all false
set_option maxRecDepth 100000
set_option maxHeartbeats 4000000
namespace L2
open PySem PySem.Spec PyProof.Rows
theorem back_places (n : Nat) : Builtin.Slice.slicePlaces ((n : Int) - 1) (-1) (-1) = n := by
  unfold Builtin.Slice.slicePlaces
  rw [if_neg (by omega)]
  by_cases h : ((n : Int) - 1) > -1
  · rw [if_pos h]
    have : ((n : Int) - 1 - -1 - 1) / (- -1) + 1 = (n : Int) := by
      rw [Int.neg_neg, Int.ediv_one]
      omega
    rw [this]
    exact Int.toNat_natCast n
  · rw [if_neg h]
    have : n = 0 := by omega
    rw [this]
    rfl
theorem back_pick (xs : Array Value) : ((List.range xs.size).filterMap fun (m : Nat) => xs[(((xs.size : Int) - 1) + (m : Int) * (-1)).toNat]?).toArray = xs.toList.reverse.toArray := by
  congr 1
  refine List.ext_getElem? fun i => ?_
  have hall : ∀ k, k ≤ xs.size → (List.range k).filterMap (fun (m : Nat) => xs[(((xs.size : Int) - 1) + (m : Int) * (-1)).toNat]?) = xs.toList.reverse.take k := fun k => by
    induction k with
    | zero => intro _; rfl
    | succ k ih =>
      intro hk
      rw [List.range_succ, List.filterMap_append, ih (by omega), List.take_add_one]
      congr 1
      have hi : (((xs.size : Int) - 1) + (k : Int) * (-1)).toNat = xs.size - 1 - k := by omega
      have hlt : xs.size - 1 - k < xs.size := by omega
      have hr : xs.toList.reverse[k]? = some xs[xs.size - 1 - k] := by
        rw [List.getElem?_reverse (by rw [Array.length_toList]; omega), Array.length_toList, Array.getElem?_toList]
        exact Array.getElem?_eq_getElem hlt
      rw [hr, List.filterMap_cons, hi, Array.getElem?_eq_getElem hlt]
      rfl
  rw [hall xs.size (Nat.le_refl _), List.take_of_length_le (by rw [List.length_reverse, Array.length_toList]; exact Nat.le_refl _)]
section
variable {prog : Program} {w : World} {A : Around} {E : Value → Shared → Prop} {s : Shared}
theorem slice_back {sl : Addr} {v1 v2 v3 : Value} {n : Nat} {Q : Int × Int × Nat → Shared → Prop} (isS : s.heap.IsSliceOf sl v1 v2 v3) (p1 : IsPart v1 none) (p2 : IsPart v2 none) (p3 : IsPart v3 (some (-1))) (goal : Q ((n : Int) - 1, -1, n) s) :
    wpAny (model prog w) A (Builtin.Slice.sliceApplied (.ref sl) (pure (n : Int))) Q E s := by
  obtain ⟨os, atS, clS, daS⟩ := id isS
  unfold Builtin.Slice.sliceApplied Builtin.Slice.sliceFields
  refine wpAny_bind (wpAny_bind (wpAny_field atS daS (x := v1) rfl (wpAny_bind (wpAny_field atS daS (x := v2) rfl (wpAny_bind (wpAny_field atS daS (x := v3) rfl (wpAny_pure ?_)))))))
  refine wpAny_bind (HT.slicePart_ p3 ?_)
  show wpAny _ _ (if ((-1 : Int) == 0) = true then _ else _) _ _ s
  rw [if_neg (by decide)]
  refine wpAny_bind (HT.slicePart_ p1 (wpAny_bind (HT.slicePart_ p2 (wpAny_bind (wpAny_pure ?_)))))
  show wpAny _ _ (pure ((n : Int) - 1, (-1 : Int), Builtin.Slice.slicePlaces ((n : Int) - 1) (-1) (-1))) _ _ s
  rw [back_places]
  exact wpAny_pure goal
theorem tuple_back {t sl : Addr} {items : Array Value} {v1 v2 v3 : Value} {Q : Value → Shared → Prop} (isT : IsTup s.heap t items) (isS : s.heap.IsSliceOf sl v1 v2 v3) (p1 : IsPart v1 none) (p2 : IsPart v2 none) (p3 : IsPart v3 (some (-1)))
    (goal : Q (.ref s.heap.objs.size) { s with heap := s.heap.push { cls := .type "tuple", data := .seq items.toList.reverse.toArray } }) (fits : items.size ≤ sizeLine) : wpAny (model prog w) A (getItem (.ref t) (.ref sl)) Q E s := by
  have okR : sizeOk (.seq items.toList.reverse.toArray) := by
    show items.toList.reverse.toArray.size ≤ sizeLine
    rw [List.size_toArray, List.length_reverse, Array.length_toList]
    exact fits
  obtain ⟨os, atS, clS, daS⟩ := id isS
  have tyS : s.TypeIs (.ref sl) "slice" := ⟨os, atS, clS⟩
  unfold getItem
  try with_reducible refine wpAny_holding ?_
  first | refine wpAny_bind (wpAny_pure ?_) | skip
  refine wpAny_bind (wpAny_sequenceKey isT.typeIs (by decide) ?_)
  refine wpAny_bind (wpAny_callSpecial?_slot (name := Str.ofString "__getitem__") isT.typeIs PyProof.Rows.slot_tuple_getitem (wpAny_call_entry PyProof.Rows.slot_tuple_getitem isT.typeIs entry_tuple_getitem ?_ (args_tuple_getitem _ _)))
  show wpAny _ _ (Builtin.Tuple.tupleItemsOf (.ref t) >>= _) _ _ s
  refine wpAny_bind (tupleItemsOf_ isT ?_)
  refine wpAny_bind (wpAny_typeOf tyS ?_)
  rw [if_pos (by decide)]
  refine wpAny_bind (slice_back isS p1 p2 p3 ?_)
  have no : ¬ ((((items.size : Int) - 1) == 0 && (-1 : Int) == 1 && items.size == items.size) = true) := by
    rw [show ((-1 : Int) == 1) = false by decide, Bool.and_false, Bool.false_and]
    exact Bool.false_ne_true
  show wpAny _ _ (if (((items.size : Int) - 1) == 0 && (-1 : Int) == 1 && items.size == items.size) = true then _ else _) _ _ s
  rw [if_neg no, back_pick]
  first
    | exact wpAny_bind (m := Builtin.Tuple.tupleExact _) (wpAny_newObj_type (wpAny_pure ⟨_, rfl, wpAny_pure goal⟩) okR)
    | exact wpAny_bind (m := Builtin.Tuple.tupleExact _) (wpAny_newObj_type (wpAny_bind (wpAny_pure (wpAny_pure ⟨_, rfl, wpAny_pure goal⟩))) okR)
    | exact wpAny_bind (wpAny_bind (m := Builtin.Tuple.tupleExact _) (wpAny_newObj_type (wpAny_pure (wpAny_pure ⟨_, rfl, wpAny_pure goal⟩)) okR))
    | exact wpAny_bind (wpAny_bind (m := Builtin.Tuple.tupleExact _) (wpAny_newObj_type (wpAny_pure ⟨_, rfl, wpAny_pure goal⟩) okR))
end
/-- t[::-1] -/
def tRevT (K : PySem.W.Frag) (te : TE) : TE := fun σ H Q => te σ H fun x H1 => ∃ a xs, x = .ref a ∧ SqT K H1 a xs ∧ ∀ p, H1 p = none → Q (.ref p) (upd H1 p (.tup xs.reverse))
theorem pe_revT {X : Cx} {e : Expr} {te : TE} {k : Nat} {p1 p2 p3 pos : Pos} (he : PE X e te) : PE X (.Subscript e (.Slice none none (some (.UnaryOp .USub (.Constant (.int 1) k p1) p2)) p3) pos) (tRevT X.K te) := by
  refine ⟨fun pins st σ H Q I want => ?_⟩
  refine Subscript_ (thn (he.run pins st σ H _ I want) fun v s1 ⟨x, H1, I1, r1, q1⟩ => ?_)
  obtain ⟨a, xs, ex, isT, q⟩ := q1
  subst ex
  cases r1
  have step : PO X (some (.UnaryOp .USub (.Constant (.int 1) k p1) p2)) (tPart (tUn (rU fun i => .int (-i)) (tC (.int 1)))) := po_some (pe_un un_neg pe_int)
  refine wpAny_Slice (thn (po_none.run pins s1 σ H1 (fun o H2 => o = none ∧ H2 = H1) I1 ⟨rfl, rfl⟩) fun vl s2 ⟨l, H2, I2, pl, el, e2⟩ => ?_)
  subst el e2
  refine thn (po_none.run pins s2 σ H2 (fun o H3 => o = none ∧ H3 = H2) I2 ⟨rfl, rfl⟩) fun vu s3 ⟨u, H3, I3, pu, eu, e3⟩ => ?_
  subst eu e3
  refine thn (step.run pins s3 σ H3 (fun o H4 => o = some (-1) ∧ H4 = H3) I3 ⟨1, rfl, -1, rfl, rfl, rfl⟩) fun vs s4 ⟨o, H4, I4, ps, eo, e4⟩ => ?_
  subst eo e4
  have I5 : Inv X pins σ H4 { s4 with heap := s4.heap.push { cls := .type "slice", data := .fields #[vl, vu, vs] } } := I4.kept (t' := s4.toks) fun b ob z => Heap.get?_push_of_some _ z
  obtain ⟨its, r, ht, hz⟩ := I5.tuple isT
  have many := r.length
  show wpAny (model X.prog X.w) X.A (subscriptTail e (.Slice none none (some (.UnaryOp .USub (.Constant (.int 1) k p1) p2)) p3) (.ref a) (.ref s4.heap.objs.size)) (EP X pins σ Q) X.xe { s4 with heap := s4.heap.push { cls := .type "slice", data := .fields #[vl, vu, vs] } }
  refine tail_any (ops := [.ref a, .ref s4.heap.objs.size]) ht.typeIs (PyProof.Rows.slot_tuple_getitem.lookup) ?_ (by with_unfolding_all rfl)
  refine tuple_back ht (Heap.IsSliceOf.new _ vl vu vs) pl pu ps ?_ (by rw [List.size_toArray]; omega)
  refine ⟨.ref _, _, I5.laid (t' := s4.toks) (o := .tup xs.reverse) (fun b ob z => Heap.get?_push_of_some _ z) (Nat.le_refl _) ?_, rfl, q _ (I5.hok.fresh (Nat.le_refl _))⟩
  exact ⟨by rw [List.length_reverse]; exact hz, _, r.reverse, IsTup.new _ _⟩
end L2

set_option Elab.async false
set_option linter.all false
set_option maxRecDepth 100000
/-! len of a set of ints: as many as its members -/
namespace L2
open PySem PySem.Spec PyProof.Rows
def rLenSetO (w : World) : List V → Hp → VK → Prop := fun xs H Q => ∃ (a : Addr) (S : Int → Bool) (n : Nat), xs = [.ref a] ∧ H a = some (SetO w a S n) ∧ n ≤ 1000 ∧ ((∃ l : List Int, l.Nodup ∧ l.length = n ∧ ∀ k, k ∈ l ↔ S k = true) → Q (.int n) H)
theorem cr_lenSetO {X : Cx} : CallR X (.builtin "len") (rLenSetO X.w) := by
  intro pins s σ H xs us Q I r h
  obtain ⟨a, S, n, rfl, ha, h64, q⟩ := h
  have R := setO_get I ha
  rw [Vals.ref1 r]
  obtain ⟨o, es, ep, t, ho, hex, hd, g, nd, hm, hb, hf, hn, hr, hl⟩ := R
  refine call_len_set ho hex hd hf (by rw [hn]; omega) ⟨.int n, H, I.tok _, ⟨_, by rw [hn]⟩, q ⟨es.toList.map keyOf, nd, ?_, fun k => (hm k).symm⟩⟩
  rw [List.length_map, Array.length_toList]
  exact hn
/-- the bookkeeping of a walk over a range, whatever a turn's reading is -/
theorem steps_range {lo : Int} {n : Nat} {H0 : Hp} {Qd : Hp → Prop} {step : V → Hp → (Hp → Prop) → Prop} (Pv : Nat → Hp → Prop) (h0 : Pv 0 H0)
    (hs : ∀ i H, i < n → Pv i H → step (.int (lo + i)) H (Pv (i + 1))) (hd : ∀ H, Pv n H → Qd H) :
    ∃ W : Nat → Nat → Hp → Prop, (∃ m, W 0 m H0) ∧ ∀ i m H, W i m H →
      ((Itr lo n).stop i H ∧ Qd H) ∨ ((Itr lo n).go i H ∧ ∃ N : Hp → Prop, (∀ H', N H' → ∃ m', m' < m ∧ W (i + 1) m' H') ∧ ∀ x H', (Itr lo n).yld i H x H' → step x H' N) := by
  refine ⟨fun i m H => m = n - i ∧ i ≤ n ∧ Pv i H, ⟨n, by simp, Nat.zero_le _, h0⟩, ?_⟩
  rintro i m H ⟨rfl, hi, p⟩
  by_cases hlt : i < n
  · refine .inr ⟨hlt, Pv (i + 1), fun H' p' => ⟨n - (i + 1), by omega, rfl, hlt, p'⟩, fun x H' y => ?_⟩
    obtain ⟨e, y⟩ := y
    subst e y
    exact hs i _ hlt p
  · obtain rfl : i = n := by omega
    exact .inl ⟨Nat.le_refl _, hd H p⟩
end L2

set_option Elab.async false
set_option linter.all false
set_option maxRecDepth 100000
set_option maxHeartbeats 4000000
/-! zip of two things, each a list or a tuple -/
namespace L2
open PySem PySem.Spec PyProof.Rows
def SqB (K : PySem.W.Frag) (t : Bool) (H : Hp) (a : Addr) (xs : List V) : Prop := match t with | true => SqT K H a xs | false => SqL K H a xs
def SeqB (h : Heap) (t : Bool) (a : Addr) (items : Array Value) : Prop := match t with | true => h.IsTuple a items | false => h.IsList a items
def IterB (h : Heap) (t : Bool) (it a : Addr) (i : Nat) : Prop := match t with | true => h.IsTupleIter it a i | false => h.IsListIter it a i
def obB (t : Bool) (a : Addr) : Obj := match t with | true => { cls := .type "tuple_iterator", data := .fields #[.ref a, .int 0 0] } | false => { cls := .type "list_iterator", data := .fields #[.ref a, .int 0 0] }
theorem drawsB {prog : Program} {w : World} {A : Around} (t : Bool) (hh : A.handled = none) (it l : Addr) (hne : l ≠ it) (items : Array Value) :
    Draws prog w A it [it, l] items.size (fun i v => items[i]? = some v) (fun i h => IterB h t it l i ∧ SeqB h t l items) := by
  cases t with
  | true => exact Draws.tuple hh it l hne items
  | false => exact Draws.list hh it l hne items
theorem beginsB (t : Bool) (l : Addr) (items : Array Value) : Begins (.ref l) (obB t l) (fun h => SeqB h t l items) := by
  cases t with
  | true => exact begins_tuple l items
  | false => exact begins_list l items
theorem iterB_new {h : Heap} {t : Bool} {it l : Addr} (e : h.get? it = some (obB t l)) : IterB h t it l 0 := by
  cases t with
  | true => exact ⟨_, e, rfl, rfl⟩
  | false => exact ⟨_, e, rfl, rfl⟩
theorem IterB.live {h : Heap} {t : Bool} {it a : Addr} {i : Nat} (q : IterB h t it a i) : ∃ o, h.get? it = some o ∧ ∀ v, o.data ≠ .cell v := by
  cases t with
  | true =>
    obtain ⟨o, e, _, d⟩ := q
    exact ⟨o, e, fun v q => by rw [d] at q; cases q⟩
  | false =>
    obtain ⟨o, e, _, d⟩ := q
    exact ⟨o, e, fun v q => by rw [d] at q; cases q⟩
theorem IterB.at {h h' : Heap} {t : Bool} {it a : Addr} {i : Nat} (q : IterB h t it a i) (k : ∀ o, h.get? it = some o → h'.get? it = some o) : IterB h' t it a i := by
  cases t with
  | true => exact Heap.IsTupleIter.at q k
  | false => exact Heap.IsListIter.at q k
theorem SeqB.lt {h : Heap} {t : Bool} {a : Addr} {items : Array Value} (q : SeqB h t a items) : a < h.objs.size := by
  cases t with
  | true =>
    obtain ⟨o, e, _⟩ := q
    exact Heap.lt_size e
  | false =>
    obtain ⟨o, e, _⟩ := q
    exact Heap.lt_size e
section
variable {X : Cx} {pins : List (Addr × Obj)} {σ : St} {H : Hp} {s : Shared}
theorem inv_seqB {t : Bool} {a : Addr} {xs : List V} (I : Inv X pins σ H s) (q : SqB X.K t H a xs) : ∃ its : List Value, Vals xs its ∧ SeqB s.heap t a its.toArray := by
  cases t with
  | true =>
    obtain ⟨its, rv, p, _⟩ := I.tuple q
    exact ⟨its, rv, p⟩
  | false =>
    obtain ⟨its, rv, p, _⟩ := I.list q
    exact ⟨its, rv, p.isList⟩
theorem inv_injB {t : Bool} {a : Addr} {xs ys : List V} (I : Inv X pins σ H s) (q : SqB X.K t H a xs) (q' : SqB X.K t H a ys) : xs = ys := by
  cases t with
  | true => exact I.tuple_inj q q'
  | false => exact I.list_inj q q'
end
theorem SqB.ext {K : PySem.W.Frag} {t : Bool} {H H' : Hp} {a : Addr} {xs : List V} (q : SqB K t H a xs) (e : Ext H H') : SqB K t H' a xs := by
  cases t with
  | true => exact SqT.ext q e
  | false => exact SqL.ext q e
/-- the two things as they stand at each turn, the items in new pairs -/
def ItzB (K : PySem.W.Frag) (t1 t2 : Bool) (a b : Addr) : It :=
  ⟨fun i H => ∃ (xs ys : List V), SqB K t1 H a xs ∧ SqB K t2 H b ys ∧ i < xs.length ∧ i < ys.length,
    fun i H v H' => ∃ T x y, v = .ref T ∧ H T = none ∧ H' = upd H T (.tup [x, y]) ∧ (∀ xs, SqB K t1 H a xs → xs[i]? = some x) ∧ ∀ ys, SqB K t2 H b ys → ys[i]? = some y,
    fun i H => ∃ xs ys : List V, SqB K t1 H a xs ∧ SqB K t2 H b ys ∧ i = min xs.length ys.length⟩
theorem turn_zipB {P : Program} {w : World} {K : PySem.W.Frag} {elts : List Expr} {kk : Nat} {tpos : Pos} {t1 t2 : Bool} {a b z TI TO i1 i2 : Addr} (D : ZipApart z TI TO i1 i2 a b) :
    Turn P w K (.Tuple elts kk tpos) (ItzB K t1 t2 a b) [z, TI, TO, i1, i2] z (fun i h => IsZip h z TI TO .none ∧ IsTupOf2 h TI (.ref i1) (.ref i2) ∧ (∃ x y, IsTupOf2 h TO x y) ∧ IterB h t1 i1 a i ∧ IterB h t2 i2 b i) where
  mem := by simp
  obj := fun i h st c hc => by
    obtain ⟨hz, hTI, ⟨x, y, hTO⟩, h1, h2⟩ := st
    have e' : c = z ∨ c = TI ∨ c = TO ∨ c = i1 ∨ c = i2 := by simpa using hc
    rcases e' with q | q | q | q | q
    · rw [q]; exact ⟨_, hz, fun v q => nomatch q⟩
    · rw [q]; exact ⟨_, hTI, fun v q => nomatch q⟩
    · rw [q]; exact ⟨_, hTO, fun v q => nomatch q⟩
    · rw [q]; exact h1.live
    · rw [q]; exact h2.live
  keep := fun i h h' st k => by
    obtain ⟨hz, hTI, ⟨x, y, hTO⟩, h1, h2⟩ := st
    exact ⟨k z (by simp) _ hz, k TI (by simp) _ hTI, ⟨x, y, k TO (by simp) _ hTO⟩, h1.at fun o q => k i1 (by simp) o q, h2.at fun o q => k i2 (by simp) o q⟩
  item := by
    intro X hP hw hK hc i pins s σ H E I hf st hg
    subst hP hw hK
    obtain ⟨hz, hTI, ⟨x0, y0, hTO⟩, h1, h2⟩ := st
    obtain ⟨xs, ys, hqx, hqy, hx, hy⟩ := hg
    obtain ⟨its, rv, p⟩ := inv_seqB I hqx
    obtain ⟨its2, rv2, p2⟩ := inv_seqB I hqy
    have l1 := rv.length
    have l2 := rv2.length
    have hzl : z < s.heap.objs.size := Heap.lt_size hz
    have Sp : ZipSep2 z TI TO i1 i2 [i1, a] [i2, b] := ⟨D.TIz, D.TOz, D.TITO, D.TIi1, by simp, by simp [Ne.symm D.i1z, Ne.symm D.l1z], by simp [D.TOi1, Ne.symm D.l1TO], D.TIi2, by simp, by simp [Ne.symm D.i2z, Ne.symm D.l2z], by simp [D.TOi2, Ne.symm D.l2TO], by simp [D.i12, Ne.symm D.l2i1], by simp [Ne.symm D.i12, Ne.symm D.l1i2]⟩
    have D1 := drawsB (prog := X.prog) (w := X.w) (A := X.A.in1) t1 (show X.A.in1.handled = none from I.ok.hd hc) i1 a D.l1i1 its.toArray
    have D2 := drawsB (prog := X.prog) (w := X.w) (A := X.A.in1) t2 (show X.A.in1.handled = none from I.ok.hd hc) i2 b D.l2i2 its2.toArray
    refine wpAny_pyNext_zipD2_item Sp D1 D2 hz hTI hTO ⟨h1, p⟩ ⟨h2, p2⟩ (by simp; omega) (by simp; omega) fun u u2 h' tk hP1 hP2 z' TO' h1' h2' hT hsz hk => ?_
    have hu : its[i]? = some u := by simpa using hP1
    have hu2 : its2[i]? = some u2 := by simpa using hP2
    obtain ⟨x, hxx⟩ : ∃ x, xs[i]? = some x := ⟨_, List.getElem?_eq_getElem hx⟩
    obtain ⟨y, hyy⟩ : ∃ y, ys[i]? = some y := ⟨_, List.getElem?_eq_getElem hy⟩
    obtain ⟨u', hu', ru⟩ := rv.get hxx
    obtain ⟨u2', hu2', ru2⟩ := rv2.get hyy
    obtain rfl : u' = u := Option.some.inj (hu'.symm.trans hu)
    obtain rfl : u2' = u2 := Option.some.inj (hu2'.symm.trans hu2)
    refine ⟨_, rfl, wpAny_letOwnedTupleGo_zip (s := { s with heap := h', toks := tk }) z' fun h'' z'' sb => ?_⟩
    have hT2 : h''.get? s.heap.objs.size = some { cls := .type "tuple", data := .seq #[u', u2'] } := (sb.2 _ (Nat.ne_of_gt hzl)).trans hT
    have new : ObjOk X.prog X.w (upd H s.heap.objs.size (.tup [x, y])) h'' s.heap.objs.size (.tup [x, y]) :=
      ⟨by show 2 ≤ sizeLine; decide, [u', u2'], .cons ru (.cons ru2 .nil), ⟨_, hT2, rfl, _, rfl⟩⟩
    have I1 : Inv X pins σ (upd H s.heap.objs.size (.tup [x, y])) { s with heap := h'', toks := tk } :=
      I.turnedNew (ch := [z, TI, TO, i1, i2]) (fun c o hb q => (sb.2 c (fun q' => hb (by simp [q']))).trans (hk c o (fun q' => hb (by simp [q'])) (fun q' => hb (by simp [q'])) (fun q' => hb (by simp [q'])) (fun q' => hb (by simp [q'])) q)) hf (Nat.le_refl _) new
    refine ⟨.ref s.heap.objs.size, _, I1, rfl, ⟨_, x, y, rfl, I.hok.fresh (Nat.le_refl _), rfl, fun l hl => by rw [inv_injB I hl hqx]; exact hxx, fun l hl => by rw [inv_injB I hl hqy]; exact hyy⟩, ⟨z'', ?_, ⟨u', u2', ?_⟩, ?_, ?_⟩, fun c hcm => ?_⟩
    · exact (sb.2 _ D.TIz).trans (hk _ _ D.TIz D.TITO D.TIi1 D.TIi2 hTI)
    · exact (sb.2 _ D.TOz).trans TO'
    · exact h1'.1.at fun o q => (sb.2 _ D.i1z).trans q
    · exact h2'.1.at fun o q => (sb.2 _ D.i2z).trans q
    · have hlt : c < s.heap.objs.size := by
        have e' : c = z ∨ c = TI ∨ c = TO ∨ c = i1 ∨ c = i2 := by simpa using hcm
        rcases e' with q | q | q | q | q
        · rw [q]; exact hzl
        · rw [q]; exact Heap.lt_size hTI
        · rw [q]; exact Heap.lt_size hTO
        · rw [q]; obtain ⟨_, e1, _⟩ := h1.live; exact Heap.lt_size e1
        · rw [q]; obtain ⟨_, e2, _⟩ := h2.live; exact Heap.lt_size e2
      rw [upd_ne (Nat.ne_of_lt hlt)]
      exact (hf c hcm).1
  done := by
    intro X hP hw hK hc i pins s σ H E I hf st hg
    subst hP hw hK
    obtain ⟨hz, hTI, ⟨x0, y0, hTO⟩, h1, h2⟩ := st
    obtain ⟨xs, ys, hqx, hqy, hend⟩ := hg
    obtain ⟨its, rv, p⟩ := inv_seqB I hqx
    obtain ⟨its2, rv2, p2⟩ := inv_seqB I hqy
    have l1 := rv.length
    have l2 := rv2.length
    have Sp : ZipSep2 z TI TO i1 i2 [i1, a] [i2, b] := ⟨D.TIz, D.TOz, D.TITO, D.TIi1, by simp, by simp [Ne.symm D.i1z, Ne.symm D.l1z], by simp [D.TOi1, Ne.symm D.l1TO], D.TIi2, by simp, by simp [Ne.symm D.i2z, Ne.symm D.l2z], by simp [D.TOi2, Ne.symm D.l2TO], by simp [D.i12, Ne.symm D.l2i1], by simp [Ne.symm D.i12, Ne.symm D.l1i2]⟩
    have D1 := drawsB (prog := X.prog) (w := X.w) (A := X.A.in1) t1 (show X.A.in1.handled = none from I.ok.hd hc) i1 a D.l1i1 its.toArray
    have D2 := drawsB (prog := X.prog) (w := X.w) (A := X.A.in1) t2 (show X.A.in1.handled = none from I.ok.hd hc) i2 b D.l2i2 its2.toArray
    refine wpAny_pyNext_zipD2_end Sp D1 D2 hz hTI hTO ⟨h1, p⟩ ⟨h2, p2⟩ (by simp; omega) (by simp; omega) (by simp; omega) fun h' tk hk => ⟨rfl, I.turnedL (t' := tk) (ch := [z, TI, TO, i1, i2]) (fun c o hb q =>
      hk c o (fun q' => hb (by simp [q'])) (fun q' => hb (by simp [q'])) (fun q' => hb (by simp [q'])) (fun q' => hb (by simp [q'])) q) hf⟩
  self := fun A i s Q E st h => wpAny_pyIter_zip st.1 h
def iZipB (K : PySem.W.Frag) (t1 t2 : Bool) (ta : TA) : TI := fun σ H R => ta σ H fun vs H1 => ∃ a b xs ys, vs = [.ref a, .ref b] ∧ SqB K t1 H1 a xs ∧ SqB K t2 H1 b ys ∧ R (ItzB K t1 t2 a b) H1
theorem pi_zipB {X : Cx} (t1 t2 : Bool) {e e2 : Expr} {ta : TA} {p pos tpos : Pos} {elts : List Expr} {kk : Nat} (hg : Gl X "zip") (hm : X.mg "zip" = none) (ha : PA X [e, e2] ta)
    (hs : starEach [e, e2] X.env = (false, eval e X.env) :: starEach [e2] X.env := by rfl) (hpl : (backTo pos (starEach [e2] X.env)).any (·.1) = false := by rfl) :
    PI X (.Tuple elts kk tpos) (.Call (.Name "zip" p) [e, e2] [] pos) (iZipB X.K t1 t2 ta) := by
  refine ⟨fun pins s σ H R I h => ?_⟩
  refine Call_ (ld_blt I hg hm PyProof.Rows.boot_zip (PyProof.Rows.callWith_type1 (thn (ha.run pos pins s σ H _ I h) fun us s1 ⟨vs, H1, I1, r1, q1⟩ => ?_) hs hpl))
  obtain ⟨a, b, xs, ys, ex, hqx, hqy, q⟩ := q1
  subst ex
  cases r1 with
  | cons r rr =>
    cases rr with
    | cons r' rr =>
      cases rr
      cases r
      cases r'
      have fresh5 : ∀ c, c ∈ [s1.heap.objs.size + 4, s1.heap.objs.size + 2, s1.heap.objs.size + 3, s1.heap.objs.size, s1.heap.objs.size + 1] → FpOk X pins H1 c := fun c hcm => by
        have e' : c = s1.heap.objs.size + 4 ∨ c = s1.heap.objs.size + 2 ∨ c = s1.heap.objs.size + 3 ∨ c = s1.heap.objs.size ∨ c = s1.heap.objs.size + 1 := by simpa using hcm
        have hle : s1.heap.objs.size ≤ c := by
          rcases e' with z | z | z | z | z
          · rw [z]; exact Nat.le_add_right _ _
          · rw [z]; exact Nat.le_add_right _ _
          · rw [z]; exact Nat.le_add_right _ _
          · rw [z]; exact Nat.le_refl _
          · rw [z]; exact Nat.le_add_right _ _
        exact I1.fpOk hle (I1.hok.fresh hle)
      obtain ⟨its, rv, p1⟩ := inv_seqB I1 hqx
      obtain ⟨its2, rv2, p2⟩ := inv_seqB I1 hqy
      refine zip_begins2 (beginsB t1 a its.toArray) (beginsB t2 b its2.toArray) p1 p2 fun h' hz hTI hTO h1 h2 hsz hk => wpAny_pyIter_zip hz ?_
      have I2 : Inv X pins σ H1 { s1 with heap := h' } := I1.kept (t' := s1.toks) hk
      exact ⟨s1.heap.objs.size + 4, [s1.heap.objs.size + 4, s1.heap.objs.size + 2, s1.heap.objs.size + 3, s1.heap.objs.size, s1.heap.objs.size + 1], _, _, H1, rfl, I2, turn_zipB (PySem.W.ktu_apart s1.heap.objs.size a b p1.lt p2.lt), ⟨hz, hTI, ⟨_, _, hTO⟩, iterB_new h1, iterB_new h2⟩, fresh5, q⟩
theorem walk_zipB {K : PySem.W.Frag} {t1 t2 : Bool} {a b : Addr} {xs ys : List V} {n : Nat} (hn : n = min xs.length ys.length) : Walk (ItzB K t1 t2 a b) n (fun H => SqB K t1 H a xs ∧ SqB K t2 H b ys) (YPair (fun i => xs[i]?) (fun i => ys[i]?)) := by
  subst hn
  refine ⟨fun i _ hi q => ⟨xs, ys, q.1, q.2, by omega, by omega⟩, fun _ q => ⟨xs, ys, q.1, q.2, rfl⟩, fun i H v H' _ q y => ?_⟩
  obtain ⟨T, x, y, e1, e2, e3, e4, e5⟩ := y
  exact ⟨T, x, y, e1, e2, e3, e4 xs q.1, e5 ys q.2⟩
end L2

set_option Elab.async false
set_option linter.all false
set_option maxRecDepth 100000
set_option maxHeartbeats 1000000
/-! list.remove of a flat item -/
namespace L2
open PySem PySem.Spec PyProof.Rows
section
variable {X : Cx}
def rRemF : V → List V → Hp → VK → Prop := fun x xs H Q => ∃ (l : Addr) (ys : List V) (y : V) (j : Nat) (z : V), x = .ref l ∧ xs = [y] ∧ H l = some (.lst ys) ∧ flatV y = true ∧ ys.all flatV = true ∧ ys[j]? = some z ∧ eqV z y = true ∧
  (∀ (m : Nat) (z' : V), m < j → ys[m]? = some z' → eqV z' y = false) ∧ Q .non (upd H l (.lst (ys.eraseIdx j)))
theorem mt_removeF : MtM X "list.remove" rRemF := by
  intro pins s σ H x xs v us Q I rx rxs h
  obtain ⟨l, ys, y, j, z, rfl, rfl, hH, fy, fys, hz, hzj, hno, q⟩ := h
  cases rx
  obtain ⟨u, rfl, ry⟩ := rxs.one
  obtain ⟨zz, its, n, rv, hl, e⟩ := I.lstM hH
  obtain ⟨w, hw, ru⟩ := rv.get hz
  obtain ⟨hjl, hje⟩ := List.getElem?_eq_some_iff.mp hw
  have hvl := rv.length
  have hj : j < its.toArray.size := by simpa using hjl
  refine call_meets PySem.F.slot_list_remove ⟨_, e, rfl⟩ PySem.F.entry_list_remove (PySem.F.args_list_remove_2 _ _)
    (SeqAt.list_removeAt l its.toArray n none #[] u (eqU y) j hj ?_ ?_ (by rw [List.size_toArray]; omega)) ⟨e, fun u' hu' => mem_eqAt ry fy rv fys u' (by simpa using hu'), ?_⟩
  · have e1 : its.toArray[j] = w := by simpa using hje
    rw [e1, eqU_of ru (flat_at fys hz)]
    exact hzj
  · intro m hm hmj
    have hml : m < its.length := by simpa using hm
    have hmy : m < ys.length := by omega
    have hy' : ys[m]? = some ys[m] := List.getElem?_eq_getElem hmy
    obtain ⟨u2, hu2, ru2⟩ := rv.get hy'
    obtain ⟨_, hme⟩ := List.getElem?_eq_some_iff.mp hu2
    have e1 : its.toArray[m] = u2 := by simpa using hme
    rw [e1, eqU_of ru2 (flat_at fys hy')]
    exact hno m _ hmj hy'
  · refine ⟨.non, _, I.lset (its' := its.eraseIdx j) (t' := s.toks) hH e ?_ (rv.eraseIdx j) ?_, rfl, q⟩
    · show its.toArray.eraseIdxIfInBounds j = (its.eraseIdx j).toArray
      rw [List.eraseIdxIfInBounds_toArray]
    · have := len_erase ys j
      omega
end
end L2

set_option Elab.async false
set_option linter.all false
set_option maxRecDepth 100000
set_option maxHeartbeats 4000000
/-! <= by an own __le__, + by an own __add__ (what stands to the right: an int, a bool, a text), the call of an instance by an own __call__; what is raised may be wished for -/
namespace PySem.W
open PySem PyProof.Rows
section
variable {prog : Program} {w : World} {A : Around} {E : Value → Shared → Prop} {s : Shared} {K : Frag} {x C L f : Addr} {h₀ : Heap} {m : Str → Option Value} {ox : Obj} {od : Option Obj}
theorem pyslot_K {M : Model} {h : Heap} {nm : String} (X : K.In h) (hs : findIn K (.ref C) (PySem.dunder nm) = some (some (.ref f))) (hr : findIn K (.ref C) (dunderR nm) = some none) : Looks M h (numberSlotInPython (.ref C) nm) true := by
  intro A Q E s k q
  unfold numberSlotInPython
  refine wpAny_bind ((looks_findIn X hs) A _ E s k ?_)
  refine wpAny_bind (wpAny_pure ?_)
  refine wpAny_bind ((looks_findIn X hr) A _ E s k ?_)
  refine wpAny_bind (wpAny_pure ?_)
  simp only [Bool.or_false, if_true]
  exact wpAny_pure q
theorem binop_KB {op : Operator} {b : Value} {T : String} {fT : Bool} {rT : Option Value} {Q : Value → Shared → Prop} (F : Fr h₀ L s.heap m) (X₀ : K.In h₀) (I : InstAt s.heap x ox C od) (hb : Looks (model prog w) s.heap (typeOf b) (.type T)) (hc : selfFirst K C = true)
    (hs : findIn K (.ref C) (PySem.dunder op.info.2) = some (some (.ref f))) (hr : findIn K (.ref C) (dunderR op.info.2) = some none) (hfT : fillsNumberSlot (.type T) op.info.2 = pure fT) (hsub : subIn K (.type T) (.ref C) = some false) (hrT : typeLookup (.type T) (dunderR op.info.2) = pure rT) (hf : isFn K (.ref f) = true)
    (h : wpAny (model prog w) A (call (.ref f) [.ref x, b]) (CmpBack Q) E s) : wpAny (model prog w) A (binaryOp op (.ref x) b) Q E s := by
  have X := X₀.keeps F.keep
  obtain ⟨cd, hcd, hm⟩ := any_some hc
  obtain ⟨rest, hm⟩ : ∃ rest, cd.mro = .ref C :: rest := by
    cases q : cd.mro with
    | nil => rw [q] at hm; cases hm
    | cons a r => rw [q] at hm; exact ⟨r, by rw [List.head?_cons] at hm; cases (beq_iff_eq.mp hm); rfl⟩
  unfold binaryOp
  refine wpAny_holding (wpAny_bind ?_)
  unfold binaryOp1
  refine wpAny_bind (I.type.here (wpAny_bind (hb.here (wpAny_bind ((fills_K X hcd hm hs).here ?_)))))
  have tail : wpAny (model prog w) A (tryMethod (.ref x) (PySem.dunder op.info.2) b) (fun r s' => ∃ v, r = some v ∧ Q v s') E s := by
    unfold tryMethod
    refine wpAny_bind (special_fn X I hs (beq_iff_eq.mp hf) (wpAny_mono h (fun v s' hv => ?_) fun _ _ e => e))
    cases v <;> first | exact hv.elim | exact wpAny_pure ⟨_, rfl, hv⟩
  simp only [show (Value.ref C == Value.type T) = false from rfl, Bool.false_eq_true, if_false]
  refine wpAny_bind (wpAny_of_eq hfT ?_)
  cases fT with
  | false =>
    simp only [Bool.and_false, Bool.false_eq_true, if_false, Bool.false_and]
    refine wpAny_bind (wpAny_pure ?_)
    simp only [Bool.false_eq_true, if_false, if_true]
    refine wpAny_bind (wpAny_mono tail (fun r s' z => ?_) fun _ _ e => e)
    obtain ⟨v, rfl, q⟩ := z
    exact wpAny_pure (wpAny_pure q)
  | true =>
    simp only [Bool.and_self, if_true]
    refine wpAny_bind ((looks_subIn X hsub).here ?_)
    simp only [Bool.false_eq_true, if_false, Bool.not_false, Bool.and_self, if_true]
    refine wpAny_bind ((pyslot_K X hs hr).here ?_)
    simp only [if_true]
    refine wpAny_bind (wpAny_of_eq (show numberSlotInPython (.type T) op.info.2 = pure false from rfl) ?_)
    simp only [Bool.not_false, if_true]
    refine wpAny_bind (wpAny_of_eq hrT ?_)
    refine wpAny_bind (wpAny_mono tail (fun r s' z => ?_) fun _ _ e => e)
    obtain ⟨v, rfl, q⟩ := z
    exact wpAny_pure (wpAny_pure q)
end
end PySem.W
namespace L2
open PySem PySem.Spec PyProof.Rows
section
variable {X : Cx} {CX : CXT} {k : Nat} {f C : Addr} {fd : FuncData} {ps : List Str} {sp : Sp} {E : St → XK}
/-- x <= y, x an instance of the class at C with an own __le__ that gives a bool -/
def rLeO (K : PySem.W.Frag) (C : Addr) (sp : Sp) : R2 := fun x y H Q => ∃ a dx fs t, x = .ref a ∧ H a = some (.ins C dx fs) ∧ TyX K H y t ∧ PySem.W.notFirst K C t = true ∧ sp [x, y] H (fun v H' => ∃ b, v = .bl b ∧ Q (.bl b) H') E0
theorem leO (O : OwnM X.prog X.w X.K X.mg X.base CX C "__le__" k ps sp) (hr : Room k X.A) (hx : Passes CX X E0) : OpR X (compareOp .LtE) (rLeO X.K C sp) := by
  obtain ⟨f, fd, F, M, hi, hb⟩ := O.ex
  intro pins s σ H x y v u Q I rx ry hq
  obtain ⟨a, dx, fs, t, rfl, ha, ty, hn, q⟩ := hq
  cases (show v = Value.ref a from rx)
  obtain ⟨P, Z, p, _⟩ := kit_of I ry ty
  obtain ⟨mA, J, _⟩ := ins_get I.hok ha
  obtain ⟨od, J, _⟩ := J.look
  obtain ⟨m, hF⟩ := I.fr
  show wpAny (model X.prog X.w) X.A (richCompare .LtE (.ref a) u) (EP X pins σ Q) X.xe s
  refine PySem.W.cmp_K (op := .LtE) (tb := t) hr.units0 hF I.ok.mod.kin J (Z.ty _ _ I.kIn p) hn M.at_ hi ?_
  refine wpAny_mono (run_at (vs := [.ref a, y]) F hr rfl hb hx I (.cons rfl (.cons ry .nil)) q) (fun v' s' z => ?_) fun _ _ e => e
  obtain ⟨w', H', I', rv, b, rfl, q'⟩ := z
  cases rv
  exact ⟨.bl b, H', I', rfl, q'⟩
/-- the built-in types that may stand to the right of an own + -/
def addTy (t : Value) : Prop := t = .type "int" ∨ t = .type "bool" ∨ t = .type "str"
structure AddM (K : PySem.W.Frag) (C : Addr) : Prop where
  self : PySem.W.selfFirst K C = true
  radd : PySem.W.findIn K (.ref C) "__radd__" = some none
  int : PySem.W.subIn K (.type "int") (.ref C) = some false
  bool : PySem.W.subIn K (.type "bool") (.ref C) = some false
  str : PySem.W.subIn K (.type "str") (.ref C) = some false
/-- x + y, x an instance of the class at C with an own __add__; what is raised is wished for -/
def tAddO (K : PySem.W.Frag) (C : Addr) (sp : Sp) (E : St → XK) (ta tb : TE) : TE := fun σ H Q => ta σ H fun x H1 => tb σ H1 fun y H2 => ∃ a dx fs t, x = .ref a ∧ H2 a = some (.ins C dx fs) ∧ TyX K H2 y t ∧ addTy t ∧ sp [x, y] H2 Q (E σ)
theorem pe_addO {W : WX} {a b : Expr} {ta tb : TE} {pos : Pos} (O : OwnM X.prog X.w X.K X.mg X.base (L2.CX X.prog X.w) C "__add__" k ps sp) (M' : AddM X.K C) (hr : Room k X.A) (tk : Takes X W) (ha : PE X a ta) (hb' : PE X b tb) : PE X (.BinOp a .Add b pos) (tAddO X.K C sp (WE W) ta tb) := by
  obtain ⟨f, fd, F, M, hi, hb⟩ := O.ex
  refine ⟨fun pins s σ H Q I h => ?_⟩
  refine wpAny_BinOp (binT ha hb' I h fun v u s2 x y H2 I2 rx ry q => ?_)
  obtain ⟨o, dx, fs, t, rfl, ho, ty, hty, q⟩ := q
  cases (show v = Value.ref o from rx)
  obtain ⟨P, Z, p, _⟩ := kit_of I2 ry ty
  obtain ⟨mA, J, _⟩ := ins_get I2.hok ho
  obtain ⟨od, J, _⟩ := J.look
  obtain ⟨m, hF⟩ := I2.fr
  have hcall := run_fnSD (us := [.ref o, u]) (vs := [.ref o, y]) F hr hb .nil (passAt tk σ) I2 (.cons rfl (.cons ry .nil)) (by exact q)
  have hcb : wpAny (model X.prog X.w) X.A (call (.ref f) [.ref o, u]) (PySem.W.CmpBack (EP X pins σ Q)) X.xe s2 := wpAny_mono hcall (fun w s' z => by
    obtain ⟨z', H', I', rz, qz⟩ := z
    exact SlX.cmpback rz ⟨z', H', I', rz, qz⟩) fun _ _ x => x
  rcases hty with rfl | rfl | rfl
  · exact PySem.W.binop_KB (op := .Add) (T := "int") (fT := true) (rT := some (.builtin "int.__radd__")) hF I2.ok.mod.kin J (Z.ty _ _ I2.kIn p) M'.self M.at_ M'.radd PySem.F.fills_int_add M'.int (by rw [typeLookup_type, builtinLookup_eq_fast]; kernel_rfl) hi hcb
  · exact PySem.W.binop_KB (op := .Add) (T := "bool") (fT := true) (rT := some (.builtin "int.__radd__")) hF I2.ok.mod.kin J (Z.ty _ _ I2.kIn p) M'.self M.at_ M'.radd PySem.F.fills_bool_add M'.bool (by rw [typeLookup_type, builtinLookup_eq_fast]; kernel_rfl) hi hcb
  · exact PySem.W.binop_KB (op := .Add) (T := "str") (fT := false) (rT := none) hF I2.ok.mod.kin J (Z.ty _ _ I2.kIn p) M'.self M.at_ M'.radd PySem.noFill_str_add M'.str (by rw [typeLookup_type, builtinLookup_eq_fast]; kernel_rfl) hi hcb
/-- f(e, ..), f an instance of the class at C with an own __call__; what is raised is wished for -/
def tCallOS (C : Addr) (sp : Sp) (E : St → XK) (tf : TE) (t : TA) : TE := fun σ H Q => tf σ H fun y H1 => ∃ a, y = V.ref a ∧ t σ H1 fun vs H2 => (∃ dx fs, H2 a = some (.ins C dx fs)) ∧ sp (V.ref a :: vs) H2 Q (E σ)
theorem pe_callOS {W : WX} {fe e : Expr} {es : List Expr} {tf : TE} {t : TA} {pos : Pos} (O : OwnM X.prog X.w X.K X.mg X.base (L2.CX X.prog X.w) C "__call__" k ps sp) (hn : ∀ g, PySem.W.findIn X.K (.ref C) "__call__" = some (some (.ref g)) → PySem.W.fnIn X.K g = true) (hf : PE X fe tf) (hr : Room k X.A) (tk : Takes X W) (ha : PA X (e :: es) t)
    (ht : eval (.Call fe (e :: es) [] pos) X.env = (do callWith pos (← eval fe X.env) [] (backTo pos (starEach (e :: es) X.env)) (backToKw pos (keywordEach [] X.env))) := by rfl)
    (he : starEach (e :: es) X.env = (false, eval e X.env) :: starEach es X.env := by rfl) (hpl : (backTo pos (starEach es X.env)).any (·.1) = false := by rfl) : PE X (.Call fe (e :: es) [] pos) (tCallOS C sp (WE W) tf t) := by
  obtain ⟨f, fd, F, M, hi, hb⟩ := O.ex
  refine ⟨fun pins s σ H Q I h => ?_⟩
  refine Call_ (thn (hf.run pins s σ H _ I h) fun u s1 ⟨y, H1, I1, ry, a, ey, q⟩ => ?_) ht
  subst ey
  obtain rfl : u = Value.ref a := ry
  refine StX.callO_with (thn (ha.run pos pins s1 σ H1 _ I1 q) fun us s2 ⟨vs, H2, I2, r, ⟨dx, fs, hz⟩, q2⟩ => ?_) he hpl
  obtain ⟨ox, od, J, hd⟩ := StX.insC_at I2 (.inr ⟨dx, fs, hz⟩ : StX.InsC X H2 a C)
  refine ⟨⟨C, ox, od, J, hd⟩, wpAny_call (PySem.W.kco_code I2.kIn J hd M.at_ hi (hn f M.at_) ?_)⟩
  have r2 : Vals (V.ref a :: vs) (Value.ref a :: us) := .cons rfl r
  have hl : (Value.ref a :: us).length = ps.length := by rw [← r2.length]; exact F.len _ _ _ _ q2
  refine codeAny_mono (F.run X.A X.stack s2 H2 ⟨Value.ref a :: us, []⟩ (Value.ref a :: us) (V.ref a :: vs) Q (WE W σ) hr I2.env0 (by have := hb s2 (Value.ref a :: us) I2.kIn (by simpa using hl); simpa using this) r2 q2) fun r s' hq => ?_
  cases r with
  | error e => exact passAt tk σ pins H2 s2 e s' I2 hq
  | ok fl =>
    cases fl with
    | ret u => exact I2.after hq
    | next => exact False.elim hq
    | brk => exact False.elim hq
    | cont => exact False.elim hq
end
end L2

set_option Elab.async false
set_option linter.all false
set_option maxRecDepth 100000
set_option maxHeartbeats 4000000
/-! a generator whose consumer may change things between its items: each stretch (from a wake to the next item) has a context of its own -/
namespace L2
open PySem PySem.Spec PyProof.Rows GenW
/-- the heap's first n places -/
def headH (h : Heap) (n : Nat) : Heap := ⟨h.objs.extract 0 n, h.life⟩
def headS (s : Shared) (n : Nat) : Shared := { s with heap := headH s.heap n }
theorem headH_size {h : Heap} {n : Nat} (hn : n ≤ h.objs.size) : (headH h n).objs.size = n := by
  show (h.objs.extract 0 n).size = n
  rw [Array.size_extract]; omega
theorem headH_get {h : Heap} {n b : Nat} (hb : b < n) : (headH h n).get? b = h.get? b := by
  have e : (headH h n).objs[b]? = h.objs[b]? := by
    show (h.objs.extract 0 n)[b]? = _
    rw [Array.getElem?_extract]
    by_cases hl : b < h.objs.size
    · rw [if_pos (by omega), Nat.zero_add]
    · rw [if_neg (by omega), Array.getElem?_eq_none (by omega)]
  unfold Heap.get?
  rw [e]
theorem headH_of {h : Heap} {n b : Nat} {o : Obj} (e : (headH h n).get? b = some o) : b < n ∧ h.get? b = some o := by
  have hb : b < n := by
    have q := Heap.lt_size e
    have z : (headH h n).objs.size ≤ n := by show (h.objs.extract 0 n).size ≤ n; rw [Array.size_extract]; omega
    exact Nat.lt_of_lt_of_le q z
  exact ⟨hb, by rw [← headH_get hb]; exact e⟩

/-- what a generator and its consumer have agreed on: cs: the consumer's state while the generator runs (what is out; heap); yd: what it wants of an item; kp: what it does to the heap until it asks again -/
structure Deal where
  cs : List V → Hp → Shared → Prop
  yd : List V → V → Hp → Prop
  kp : List V → V → Hp → Hp → Prop
  ad : List Addr := []
/-- the consumer's own places, made after the generator's: they stay while it runs -/
def AdOk (ad : List Addr) (n₀ : Nat) (outer : List Env) (H : Hp) (h : Heap) : Prop := ∀ b ∈ ad, n₀ < b ∧ H b = none ∧ b ∉ frs outer ∧ ∃ o, h.get? b = some o ∧ ∀ v, o.data ≠ .cell v
/-- the state in which it asks again -/
structure Wk (P : Program) (w : World) (base : Heap) (outer : List Env) (n₀ : Nat) (ad : List Addr) (H : Hp) (s : Shared) : Prop where
  bare : AllBare s.gens
  bs : ∀ b o, base.get? b = some o → s.heap.get? b = some o ∧ H b = none
  funs : s.heap.FunFrames base outer
  low : ∀ b ∈ frs outer, b < n₀ ∧ H b = none
  hok : HOk P w H s.heap
  sz : n₀ ≤ s.heap.objs.size
  ad : AdOk ad n₀ outer H s.heap
/-- a stretch's contexts -/
structure Fam (Fm : Cx → Prop) (n₀ : Nat) (X : Cx) : Prop where
  same : ∀ Z, Fm Z → Z = { X with s_0 := Z.s_0, H_0 := Z.H_0, xe := Z.xe }
  give : ∀ s H, s.heap.objs.size = n₀ → ∃ Z, Fm Z ∧ Z.s_0 = s ∧ Z.H_0 = H
  ex : X.ex = []
  bsz : X.base.objs.size ≤ n₀
  fn : ∀ Z, Fm Z → ∀ x, Z.fn x = true
  loc : X.env.locals = n₀
def Mine (X : Cx) (ip : List (Addr × Obj)) (b : Addr) : Prop := b = X.env.locals ∨ (∃ x, X.env.cells.lookup x = some b) ∨ ∃ p ∈ X.pn ++ ip, p.1 = b
section
variable {Fm : Cx → Prop} {n₀ : Nat} {X Z : Cx} {ip : List (Addr × Obj)} {σ : St} {H H2 : Hp} {s s2 : Shared}
theorem funFrames_cut {base h : Heap} {n : Nat} : ∀ {l : List Env}, h.FunFrames base l → (∀ b ∈ frs l, b < n) → (headH h n).FunFrames base l
  | [], _, _ => trivial
  | env :: l, hh, hl => by
    obtain ⟨hk, ⟨L, o, hf, hn, ho, hd⟩, hr⟩ := hh
    have hL : L < n := hl L (List.mem_filterMap.mpr ⟨env, List.mem_cons_self, hf⟩)
    refine ⟨hk, ⟨L, o, hf, hn, (headH_get hL).trans ho, hd⟩, funFrames_cut hr fun b hb => ?_⟩
    obtain ⟨e, he, q⟩ := List.mem_filterMap.mp hb
    exact hl b (List.mem_filterMap.mpr ⟨e, List.mem_cons_of_mem _ he, q⟩)
/-- the generator's state in the next stretch -/
theorem reseat {ad : List Addr} {h0 : Heap} (F : Fam Fm n₀ X) (hZ : Fm Z) (hz : Z.s_0.heap.objs.size = n₀) (I : Inv Z (pinsAt ad h0 ++ ip) σ H s) (w : Wk X.prog X.w X.base X.outer n₀ ad H2 s2)
    (mine : ∀ b, Mine Z ip b → ∀ o, s.heap.get? b = some o → s2.heap.get? b = some o ∧ H2 b = none) :
    ∃ Z', Fm Z' ∧ Z'.s_0 = headS s2 n₀ ∧ Z'.H_0 = H2 ∧ Inv Z' (pinsAt ad s2.heap ++ ip) σ H2 s2 := by
  obtain ⟨Z', hZ', e1, e2⟩ := F.give (headS s2 n₀) H2 (headH_size w.sz)
  refine ⟨Z', hZ', e1, e2, ?_⟩
  have q1 := F.same Z hZ
  have q2 := F.same Z' hZ'
  have hex : Z.ex = [] := by rw [q1]; exact F.ex
  have hex' : Z'.ex = [] := by rw [q2]; exact F.ex
  obtain ⟨ok, os, bare, base, ⟨m, hm, loc⟩, cell, free, freeC, pin, hok, len⟩ := I
  have a1 : Z.env = X.env := by rw [q1]
  have a2 : Z'.env = X.env := by rw [q2]
  have a3 : Z.N = X.N := by rw [q1]
  have a4 : Z'.N = X.N := by rw [q2]
  have a5 : Z.pn = X.pn := by rw [q1]
  have a6 : Z'.pn = X.pn := by rw [q2]
  have a7 : Z.outer = X.outer := by rw [q1]
  have a8 : Z'.outer = X.outer := by rw [q2]
  have a9 : Z'.base = X.base := by rw [q2]
  have b1 : Z'.prog = X.prog := by rw [q2]
  have b2 : Z'.w = X.w := by rw [q2]
  have hL : ∀ o, s.heap.get? X.env.locals = some o → s2.heap.get? X.env.locals = some o ∧ H2 X.env.locals = none := fun o e => mine _ (.inl (by rw [a1])) o e
  have hC : ∀ x c, X.env.cells.lookup x = some c → ∀ o, s.heap.get? c = some o → s2.heap.get? c = some o ∧ H2 c = none := fun x c h o e => mine _ (.inr (.inl ⟨x, by rw [a1]; exact h⟩)) o e
  rw [a1] at hm loc cell free freeC pin
  rw [a3] at loc len
  have ok' : Z'.Ok := by
    obtain ⟨mod, kind, glob, blt, above, inj, has, cab, hd, frames, stk, exf, bs, bsz, noex, exfs, funs, frf⟩ := ok
    rw [q1] at mod kind glob blt above inj has cab hd frames stk
    rw [q2]
    refine ⟨mod, kind, glob, blt, ?_, inj, has, fun x c h1 h2 => ?_, hd, frames, stk, ?_, ?_, ?_, ?_, ?_, ?_, ?_⟩
    · show Z'.s_0.heap.objs.size ≤ _
      rw [e1]; show (headH s2.heap n₀).objs.size ≤ _
      rw [headH_size w.sz, ← hz]; exact above
    · show Z'.s_0.heap.objs.size ≤ _
      rw [e1]; show (headH s2.heap n₀).objs.size ≤ _
      rw [headH_size w.sz, ← hz]; exact cab x c h1 h2
    · intro b hb; have hb : b ∈ X.ex := hb; rw [F.ex] at hb; cases hb
    · intro b o e
      show Z'.s_0.heap.get? b = some o ∧ Z'.H_0 b = none
      rw [e1, e2]
      have hl : b < n₀ := Nat.lt_of_lt_of_le (Heap.lt_size e) F.bsz
      obtain ⟨r1, r2⟩ := w.bs b o e
      exact ⟨(headH_get hl).trans r1, r2⟩
    · show X.base.objs.size ≤ Z'.s_0.heap.objs.size
      rw [e1]; show _ ≤ (headH s2.heap n₀).objs.size
      rw [headH_size w.sz]; exact F.bsz
    · intro b o _ hb; have hb : b ∈ X.ex := hb; rw [F.ex] at hb; cases hb
    · intro b hb; have hb : b ∈ X.ex := hb; rw [F.ex] at hb; cases hb
    · show Z'.s_0.heap.FunFrames X.base X.outer
      rw [e1]
      exact funFrames_cut w.funs fun b hb => (w.low b hb).1
    · intro b hb
      show Z'.H_0 b = none
      rw [e2]; exact (w.low b hb).2
  refine ⟨ok', by rw [e1]; rfl, w.bare, ?_, ⟨m, ?_, ?_⟩, ?_, ?_, ?_, ?_, by rw [b1, b2]; exact w.hok, by rw [a4]; exact len⟩
  · rw [e1, e2]
    exact Un.kept fun b o e => (headH_of e).2
  · rw [a2]
    obtain ⟨o, es, ep, ho, r⟩ := hm
    exact ⟨o, es, ep, (hL o ho).1, r⟩
  · rw [a2, a4]
    intro i x v h1 h2 h3
    obtain ⟨u, r, l⟩ := loc i x v h1 h2 h3
    refine ⟨u, r, ?_⟩
    rcases l with l | ⟨k, c, e, o, ho, hd⟩
    · exact .inl l
    · exact .inr ⟨k, c, e, o, (hC x c e o ho).1, hd⟩
  · rw [a2]
    intro x c e
    obtain ⟨v, o, ho, hd⟩ := cell x c e
    exact ⟨v, o, (hC x c e o ho).1, hd⟩
  · rw [a2]
    obtain ⟨o, es, ep, ho, r⟩ := hm
    exact (hL o ho).2
  · rw [a2]
    intro x c e
    obtain ⟨v, o, ho, hd⟩ := cell x c e
    exact (hC x c e o ho).2
  · rw [a2, a6]
    intro p hp
    rcases List.mem_append.mp hp with hp | hp
    · have hp' : p ∈ Z.pn ++ (pinsAt ad h0 ++ ip) := by rw [a5]; exact List.mem_append_left _ hp
      obtain ⟨r1, r2, r3, r4, r5⟩ := pin p hp'
      obtain ⟨t1, t2⟩ := mine p.1 (.inr (.inr ⟨p, by rw [a5]; exact List.mem_append_left _ hp, rfl⟩)) p.2 r1
      refine ⟨t1, t2, r3, ?_, r5⟩
      show p.1 ∉ frs Z'.outer
      rw [a8, ← a7]; exact r4
    rcases List.mem_append.mp hp with hp | hp
    · obtain ⟨hb, e⟩ := of_pinsAt hp
      obtain ⟨w1, w2, w3, o, w4, w5⟩ := w.ad p.1 hb
      rw [e] at w4
      cases w4
      refine ⟨e, w2, ?_, ?_, w5⟩
      · rw [F.loc]; exact Nat.ne_of_gt w1
      · show p.1 ∉ frs Z'.outer
        rw [a8]; exact w3
    · have hp' : p ∈ Z.pn ++ (pinsAt ad h0 ++ ip) := List.mem_append_right _ (List.mem_append_right _ hp)
      obtain ⟨r1, r2, r3, r4, r5⟩ := pin p hp'
      obtain ⟨t1, t2⟩ := mine p.1 (.inr (.inr ⟨p, List.mem_append_right _ hp, rfl⟩)) p.2 r1
      refine ⟨t1, t2, r3, ?_, r5⟩
      show p.1 ∉ frs Z'.outer
      rw [a8, ← a7]; exact r4
end
end L2

set_option Elab.async false
set_option linter.all false
set_option maxRecDepth 100000
set_option maxHeartbeats 4000000
/-! the statements of such a generator -/
namespace L2
open PySem PySem.Spec PyProof.Rows GenW
/-- where a stretch sits -/
structure Seat (Fm : Cx → Prop) (n₀ : Nat) (Dl : Deal) (ys : List V) (s₀ : Shared) (Z : Cx) : Prop where
  fm : Fm Z
  at0 : Z.s_0 = headS s₀ n₀
  cs : Dl.cs ys Z.H_0 s₀
  sz : n₀ ≤ s₀.heap.objs.size
  ad : ∀ b ∈ Dl.ad, ∃ o, s₀.heap.get? b = some o
/-- the consumer's own things at the last wake -/
abbrev Deal.cp (Dl : Deal) (s₀ : Shared) : List (Addr × Obj) := pinsAt Dl.ad s₀.heap
theorem Seat.size {Fm : Cx → Prop} {n₀ : Nat} {Dl : Deal} {ys : List V} {s₀ : Shared} {Z : Cx} (t : Seat Fm n₀ Dl ys s₀ Z) : Z.s_0.heap.objs.size = n₀ := by
  rw [t.at0]; exact headH_size t.sz
/-- an item is handed out; then asked again -/
def GY3 (P : Program) (w : World) (base : Heap) (outer : List Env) (pn : List (Addr × Obj)) (n₀ : Nat) (Dl : Deal) : Protocol := fun n s₀ v s kap =>
  ∃ (ys : List V) (x : V) (HE H1 : Hp) (mine : Addr → Prop), n + 1 + ys.length = sizeLine ∧ RelV x v ∧ Dl.cs ys HE s₀ ∧ n₀ ≤ s₀.heap.objs.size ∧ Un (frs outer) [] HE H1 (headH s₀.heap n₀) s.heap ∧ s.os = s₀.os ∧ AllBare s.gens ∧ HOk P w H1 s.heap ∧
    (∀ p ∈ pn, s.heap.get? p.1 = some p.2 ∧ H1 p.1 = none) ∧ n₀ ≤ s.heap.objs.size ∧ (∀ p ∈ Dl.cp s₀, s.heap.get? p.1 = some p.2 ∧ H1 p.1 = none) ∧ Dl.yd ys x H1 ∧ (∀ b, mine b → H1 b = none ∧ b ∉ frs outer ∧ ∃ o, s.heap.get? b = some o) ∧ (∀ b, mine b → b ∉ Dl.ad) ∧
    ∀ H2 s2, Wk P w base outer n₀ Dl.ad H2 s2 → Dl.cs (ys ++ [x]) H2 s2 → (∀ b, mine b → ∀ o, s.heap.get? b = some o → s2.heap.get? b = some o ∧ H2 b = none) → Dl.kp ys x H1 H2 → kap (.send .none) s2
/-- where its code stands -/
structure GC3 (X : Cx) (A : Around) (c : Code) (fs : List Frame) (gd : Bool → Bool) : Prop where
  over : A.over c fs = X.A
  split : splitAtGen fs = none
  guard : fs.any Frame.guarded = false
  gd : gd false = false
section
variable (Fm : Cx → Prop) (n₀ : Nat) (X : Cx) (Dl : Deal)
abbrev Cx.Y3 : Protocol := GY3 X.prog X.w X.base X.outer X.pn n₀ Dl
/-- what follows -/
structure GK3 (ip : List (Addr × Obj)) (A : Around) (R : GenEnd) (c : Code) (fs : List Frame) (K : Flow → Sem PySem.Fin) (J : Value → Sem PySem.Fin) (D : GEnds) : Prop where
  ok : ∀ (n : Nat) (ys : List V) (s₀ s : Shared) (f : Flow) (Z : Cx), Seat Fm n₀ Dl ys s₀ Z → n + ys.length = sizeLine → SP Z (Dl.cp s₀ ++ ip) (D.at ys) f s → Seg (model X.prog X.w) A R (X.Y3 n₀ Dl) n s₀ c (K f) fs s
  exc : ∀ (n : Nat) (ys : List V) (s₀ : Shared) (e : Value) (s : Shared) (Z : Cx), Seat Fm n₀ Dl ys s₀ Z → Z.xe e s → Seg (model X.prog X.w) A R (X.Y3 n₀ Dl) n s₀ c (J e) fs s
/-- whatever follows, from this tree -/
def GRun (m : Sem Flow) (t : TGn) : Prop :=
  ∀ (A : Around) (ip : List (Addr × Obj)) (R : GenEnd) (n : Nat) (ys : List V) (s₀ : Shared) (c : Code) (fs : List Frame) (K : Flow → Sem PySem.Fin) (J : Value → Sem PySem.Fin) (gd : Bool → Bool) (lv : List Value → List Value) (s : Shared) (σ : St) (H : Hp) (D : GEnds) (Z : Cx),
    (∀ p ∈ X.pn ++ ip, p.1 ∉ Dl.ad) → Seat Fm n₀ Dl ys s₀ Z → GC3 X A c fs gd → n + ys.length = sizeLine → GK3 Fm n₀ X Dl ip A R c fs K J D → Inv Z (Dl.cp s₀ ++ ip) σ H s → t D ys σ H → Seg (model X.prog X.w) A R (X.Y3 n₀ Dl) n s₀ c (m.wrap K J gd lv) fs s
structure GQ (st : Stmt) (t : TGn) : Prop where
  run : GRun Fm n₀ X Dl (exec st X.env) t
structure GQs (st : List Stmt) (t : TGn) : Prop where
  run : GRun Fm n₀ X Dl (execs st X.env) t
end
section
variable {Fm : Cx → Prop} {n₀ : Nat} {X : Cx} {Dl : Deal} {st : Stmt} {rest : List Stmt}
theorem Fam.env (F : Fam Fm n₀ X) {Z : Cx} (h : Fm Z) : Z.env = X.env ∧ Z.A = X.A ∧ Z.prog = X.prog ∧ Z.w = X.w ∧ Z.outer = X.outer ∧ Z.pn = X.pn ∧ Z.base = X.base ∧ Z.ex = X.ex ∧ Z.K = X.K ∧ Z.calm = X.calm := by
  have q := F.same Z h
  refine ⟨?_, ?_, ?_, ?_, ?_, ?_, ?_, ?_, ?_, ?_⟩ <;> rw [q]
/-- a statement that hands out nothing -/
theorem gq_ps (F : Fam Fm n₀ X) {t : TS} (h : ∀ Z, Fm Z → PS Z st t) : GQ Fm n₀ X Dl st (tPlain t) := by
  refine ⟨fun A ip R n ys s₀ c fs K J gd lv s σ H D Z hip z g hn k I ht => seg_wrap ?_⟩
  obtain ⟨e1, e2, e3, e4, _⟩ := F.env z.fm
  have q := (h Z z.fm).run (Dl.cp s₀ ++ ip) s σ H (D.at ys) I ht
  rw [e1, e2, e3, e4] at q
  rw [g.over]
  exact wpAny_mono q (fun f s' hs => k.ok n ys s₀ s' f Z z hn hs) fun x s' hx => k.exc n ys s₀ x s' Z z hx
theorem gqs_pss (F : Fam Fm n₀ X) {t : TS} (h : ∀ Z, Fm Z → PSs Z rest t) : GQs Fm n₀ X Dl rest (tPlain t) := by
  refine ⟨fun A ip R n ys s₀ c fs K J gd lv s σ H D Z hip z g hn k I ht => seg_wrap ?_⟩
  obtain ⟨e1, e2, e3, e4, _⟩ := F.env z.fm
  have q := (h Z z.fm).run (Dl.cp s₀ ++ ip) s σ H (D.at ys) I ht
  rw [e1, e2, e3, e4] at q
  rw [g.over]
  exact wpAny_mono q (fun f s' hs => k.ok n ys s₀ s' f Z z hn hs) fun x s' hx => k.exc n ys s₀ x s' Z z hx
theorem gqs_nil : GQs Fm n₀ X Dl [] tG0 :=
  ⟨fun A ip R n ys s₀ c fs K J gd lv s σ H D Z hip z g hn k I ht => seg_execs_nil (k.ok n ys s₀ s .next Z z hn ⟨σ, H, I, ht⟩)⟩
theorem gqs_cons {t u : TGn} (a : GQ Fm n₀ X Dl st t) (b : GQs Fm n₀ X Dl rest u) : GQs Fm n₀ X Dl (st :: rest) (tGThen t u) := by
  refine ⟨fun A ip R n ys s₀ c fs K J gd lv s σ H D Z hip z g hn k I ht => seg_execs_cons ?_⟩
  refine a.run A ip R n ys s₀ c fs _ J gd lv s σ H { D with nx := fun ys' σ' H' => u D ys' σ' H' } Z hip z g hn ⟨fun n' ys' s₀' s' f Z' z' hn' hs => ?_, k.exc⟩ I ht
  cases f with
  | next =>
    obtain ⟨σ', H', I', q⟩ := hs
    exact b.run A ip R n' ys' s₀' c fs K J gd lv s' σ' H' D Z' hip z' g hn' k I' q
  | brk => exact k.ok n' ys' s₀' s' .brk Z' z' hn' hs
  | cont => exact k.ok n' ys' s₀' s' .cont Z' z' hn' hs
  | ret u => exact k.ok n' ys' s₀' s' (.ret u) Z' z' hn' hs
theorem gq_if (F : Fam Fm n₀ X) {test : Expr} {body orelse : List Stmt} {pos : Pos} {tc : TT} {t u : TGn} (hc : ∀ Z, Fm Z → PT Z test tc) (hb : GQs Fm n₀ X Dl body t) (ho : GQs Fm n₀ X Dl orelse u) : GQ Fm n₀ X Dl (.If test body orelse pos) (tGIf tc t u) := by
  refine ⟨fun A ip R n ys s₀ c fs K J gd lv s σ H D Z hip z g hn k I ht => gseg_if ?_⟩
  obtain ⟨e1, e2, e3, e4, _⟩ := F.env z.fm
  have q := (hc Z z.fm).run (Dl.cp s₀ ++ ip) s σ H _ I ht
  rw [e1, e2, e3, e4] at q
  rw [g.over]
  refine wpAny_mono q (fun b s' hb' => ?_) fun x s' hx => k.exc n ys s₀ x s' Z z hx
  obtain ⟨H2, I2, q2⟩ := hb'
  cases b with
  | true => exact hb.run A ip R n ys s₀ c fs K J gd lv s' σ H2 D Z hip z g hn k I2 q2
  | false => exact ho.run A ip R n ys s₀ c fs K J gd lv s' σ H2 D Z hip z g hn k I2 q2
/-! ### yield -/
def tYield3 (Dl : Deal) (te : TE) : TGn := fun D ys σ H => ys.length < sizeLine ∧ te σ H fun x H1 => Dl.yd ys x H1 ∧ ∀ H2, Dl.kp ys x H1 H2 → D.nx (ys ++ [x]) σ H2
theorem gq_yield (F : Fam Fm n₀ X) {e : Expr} {yp pos : Pos} {te : TE} (he : ∀ Z, Fm Z → PE Z e te) (hco : X.env.scope.isCoroutine = false := by rfl) (hi : interactive X.env = false := by rfl) : GQ Fm n₀ X Dl (.Expr (.Yield (some e) yp) pos) (tYield3 Dl te) := by
  refine ⟨fun A ip R n ys s₀ c fs K J gd lv s σ H D Z hip z g hn k I ht => ?_⟩
  obtain ⟨hlt, ht⟩ := ht
  obtain ⟨n, rfl⟩ : ∃ m, n = m + 1 := ⟨n - 1, by omega⟩
  obtain ⟨e1, e2, e3, e4, e5, e6, _⟩ := F.env z.fm
  have q := (he Z z.fm).run (Dl.cp s₀ ++ ip) s σ H _ I ht
  rw [e1, e2, e3, e4] at q
  refine seg_Expr_Yield g.split g.gd g.guard ?_ hco hi
  rw [g.over]
  refine wpAny_mono q (fun v s' hv => ?_) fun x s' hx => k.exc _ ys s₀ x s' Z z hx
  obtain ⟨x, H1, I1, rv, yd, cont⟩ := hv
  intro kap hk
  have hb := I1.base
  have hfs : Z.fs = frs X.outer := by show frs Z.outer = _; rw [e5]
  have hex : Z.ex = [] := by rw [F.same Z z.fm]; exact F.ex
  rw [hfs, hex, z.at0] at hb
  refine ⟨ys, x, Z.H_0, H1, Mine Z ip, hn, rv, z.cs, z.sz, hb, by rw [I1.os, z.at0]; rfl, I1.bare, by rw [← e3, ← e4]; exact I1.hok, fun p hp => let ⟨r1, r2, _⟩ := I1.pin p (List.mem_append_left _ (by rw [e6]; exact hp)); ⟨r1, r2⟩, ?_, fun p hp => let ⟨r1, r2, _⟩ := I1.pin p (List.mem_append_right _ (List.mem_append_left _ hp)); ⟨r1, r2⟩, yd, fun b mb => ?_, fun b mb hb => ?_, fun H2 s2 wk cs2 mk kp => ?_⟩
  · have q := I1.sz
    rw [z.size] at q
    exact q
  · rw [← hfs]
    rcases mb with rfl | ⟨y, hy⟩ | ⟨p, hp, rfl⟩
    · obtain ⟨m, ⟨o, _, _, ho, _⟩, _⟩ := I1.loc
      refine ⟨I1.free, fun hm => ?_, o, ho⟩
      obtain ⟨_, o', ho', _⟩ := I1.ok.funs.mem hm
      exact absurd (Nat.lt_of_lt_of_le (Heap.lt_size ho') I1.ok.above) (Nat.lt_irrefl _)
    · obtain ⟨v, o, ho, _⟩ := I1.cell y b hy
      refine ⟨I1.freeC y b hy, fun hm => ?_, o, ho⟩
      obtain ⟨_, o', ho', hd'⟩ := I1.funs.mem hm
      have hfn : Z.fn y = true ∨ Z.fn y = false := by cases Z.fn y <;> simp
      rcases hfn with hf | hf
      · obtain ⟨_, o2, ho2, _⟩ := I1.ok.funs.mem hm
        exact absurd (Nat.lt_of_lt_of_le (Heap.lt_size ho2) (I1.ok.cab y b hf hy)) (Nat.lt_irrefl _)
      · exact absurd hf (by rw [F.fn Z z.fm y]; exact Bool.noConfusion)
    · obtain ⟨r1, r2, r3, r4, _⟩ := I1.pin p ((List.mem_append.mp hp).elim (List.mem_append_left _) fun h => List.mem_append_right _ (List.mem_append_right _ h))
      exact ⟨r2, r4, p.2, r1⟩
  · obtain ⟨o, ho⟩ := z.ad b hb
    obtain ⟨p1, _, p3, _, p5⟩ := I1.pin (b, o) (List.mem_append_right _ (List.mem_append_left _ (mem_pinsAt hb ho)))
    rcases mb with mb | ⟨y, hy⟩ | ⟨p, hp, rfl⟩
    · exact p3 mb
    · obtain ⟨v, o2, ho2, hd2⟩ := I1.cell y b hy
      rw [p1] at ho2
      cases ho2
      exact p5 _ hd2
    · exact hip p (by rw [← e6]; exact hp) hb
  · obtain ⟨Z', f1, f2, f3, I2⟩ := reseat F z.fm z.size I1 wk mk
    refine hk .none s2 (k.ok n (ys ++ [x]) s2 s2 .next Z' ⟨f1, f2, by rw [f3]; exact cs2, wk.sz, fun b hb => let ⟨_, _, _, o, e, _⟩ := wk.ad b hb; ⟨o, e⟩⟩ ?_ ⟨σ, H2, I2, cont H2 kp⟩)
    rw [List.length_append, List.length_singleton]; omega
end
end L2

set_option Elab.async false
set_option linter.all false
set_option maxRecDepth 100000
set_option maxHeartbeats 4000000
/-! its loops -/
namespace L2
open PySem PySem.Spec PyProof.Rows GenW
section
variable {Fm : Cx → Prop} {n₀ : Nat} {X : Cx} {Dl : Deal}
theorem GC3.loop {A : Around} {c c' : Code} {fs : List Frame} {gd : Bool → Bool} {k : Result → Sem PySem.Fin} {l kp : List Value} {p : Pos} (g : GC3 X A c fs gd) (hw : c'.weight = 0) (hu : c'.cUnits = 0) : GC3 X A c' (.ret k none (gd false) l c p kp :: fs) id := by
  refine ⟨(over_loop hw hu).trans g.over, ?_, ?_, rfl⟩
  · show Option.map _ (splitAtGen fs) = none
    rw [g.split]; rfl
  · show (gd false || List.any fs Frame.guarded) = false
    rw [g.gd, g.guard]; rfl
/-- what the loop's call goes on to -/
abbrev backK (env : Env) (K : Flow → Sem PySem.Fin) (J : Value → Sem PySem.Fin) (gd : Bool → Bool) (lv : List Value → List Value) : Result → Sem PySem.Fin := fun r => ((match r with | .ok f => (.pure f : Sem Flow) | .error e => .raise e).onRaise (cameBack env)).wrap K J gd lv
/-- an exception that leaves the loop's code -/
theorem mark3 {A : Around} {ip : List (Addr × Obj)} {R : GenEnd} {c c' : Code} {fs : List Frame} {K : Flow → Sem PySem.Fin} {J : Value → Sem PySem.Fin} {gd : Bool → Bool} {lv : List Value → List Value} {D : GEnds} {p : Pos} {Z : Cx} {n : Nat} {ys : List V} {s₀ s : Shared} {x : Value}
    (F : Fam Fm n₀ X) (z : Seat Fm n₀ Dl ys s₀ Z) (hp : PassesOwn (model X.prog X.w) X.A X.env Z.xe) (g : GC3 X A c fs gd) (k : GK3 Fm n₀ X Dl ip A R c fs K J D) (hw : c'.weight = 0) (hu : c'.cUnits = 0) (hx : Z.xe x s) :
    Seg (model X.prog X.w) A R (X.Y3 n₀ Dl) n s₀ c' (marked X.env x) (.ret (backK X.env K J gd lv) none (gd false) (lv []) c p [] :: fs) s := by
  have out : ∀ (y : Value) (s' : Shared), cameBackBy (model X.prog X.w) X.A X.env Z.xe y s' → Seg (model X.prog X.w) A R (X.Y3 n₀ Dl) n s₀ c (backK X.env K J gd lv (.error y)) fs s' := fun y s' h => by
    show Seg _ _ _ _ _ _ _ (((cameBack X.env y).bind fun _ => (Sem.raise y : Sem Flow)).wrap K J gd lv) _ _
    rw [Sem.bind_eq_wrap, Sem.wrap_wrap]
    refine seg_wrap ?_
    rw [g.over]
    exact wpAny_mono h (fun _ s2 hx => k.exc n ys s₀ y s2 Z z hx) fun u s2 hx => k.exc n ys s₀ u s2 Z z hx
  unfold marked
  rw [Sem.bind_eq_wrap]
  refine seg_wrap ?_
  rw [(g.loop (k := backK X.env K J gd lv) (l := lv []) (kp := []) (p := p) hw hu).over]
  exact wpAny_bind (wpAny_mono (hp x s hx) (fun _ s2 h => wpAny_theTreesLotGoes (seg_leaf (.error x) (out x s2 h))) fun y s2 h => seg_leaf (.error y) (out y s2 h))
theorem gq_while (F : Fam Fm n₀ X) {test : Expr} {body : List Stmt} {pos : Pos} {tc : TT} {tb : TGn} (hp : ∀ Z, Fm Z → PassesOwn (model X.prog X.w) X.A X.env Z.xe) (hc : ∀ Z, Fm Z → PT Z test tc) (hb : GQs Fm n₀ X Dl body tb) : GQ Fm n₀ X Dl (.While test body [] pos) (tGWhile tc tb) := by
  refine ⟨fun A ip R n ys s₀ c fs K J gd lv s σ H D Z hip z g hn k I ⟨W, ⟨m0, w0⟩, turn⟩ => seg_While fun p => ?_⟩
  have go : ∀ (m n : Nat) (ys : List V) (s₀ s : Shared) (σ : St) (H : Hp) (Z : Cx), Seat Fm n₀ Dl ys s₀ Z → n + ys.length = sizeLine → W m ys σ H → Inv Z (Dl.cp s₀ ++ ip) σ H s →
      Seg (model X.prog X.w) A R (X.Y3 n₀ Dl) n s₀ (.whileLoop test body [] X.env) ((model X.prog X.w).den (.whileLoop test body [] X.env)) (.ret (backK X.env K J gd lv) none (gd false) (lv []) c p [] :: fs) s := by
    intro m
    induction m using Nat.strongRecOn with
    | ind m ih =>
      intro n ys s₀ s σ H Z z hn w I
      obtain ⟨e1, e2, e3, e4, _⟩ := F.env z.fm
      have gl := g.loop (k := backK X.env K J gd lv) (l := lv []) (kp := []) (p := p) (c' := .whileLoop test body [] X.env) rfl rfl
      have em : ∀ (x : Value) (env : Env), ((do noteFrame x env; theTreesLotGoes x : Sem Unit).wrap (fun _ => (.raise x : Sem PySem.Fin)) .raise id id) = marked env x := fun x env => by unfold marked; rw [Sem.bind_eq_wrap]
      refine seg_whileLoop ?_
      rw [gl.over]
      have q := (hc Z z.fm).run (Dl.cp s₀ ++ ip) s σ H _ I (turn m ys σ H w)
      rw [e1, e2, e3, e4] at q
      refine wpAny_mono q (fun b s' hb' => ?_) fun x s' hx => by rw [em]; exact mark3 F z (hp Z z.fm) g k rfl rfl hx
      obtain ⟨H2, I2, q2⟩ := hb'
      cases b with
      | false =>
        rw [if_neg Bool.false_ne_true]
        exact seg_execs_nil (seg_leaf (.ok .next) (k.ok n ys s₀ s' .next Z z hn ⟨σ, H2, I2, q2⟩))
      | true =>
        obtain ⟨N, hN, q2⟩ := q2
        rw [if_pos rfl]
        refine hb.run A ip R n ys s₀ _ _ _ _ id id s' σ H2 { D with nx := N, ct := N, bk := D.nx } Z hip z gl hn ⟨fun n' ys' s₀' s3 f Z' z' hn' hs => ?_, fun n' ys' s₀' x s3 Z' z' hx => by rw [em]; exact mark3 F z' (hp Z' z'.fm) g k rfl rfl hx⟩ I2 q2
        cases f with
        | brk => exact seg_leaf (.ok .next) (k.ok n' ys' s₀' s3 .next Z' z' hn' hs)
        | ret v => exact seg_leaf (.ok (.ret v)) (k.ok n' ys' s₀' s3 (.ret v) Z' z' hn' hs)
        | next =>
          obtain ⟨σ3, H3, I3, n3⟩ := hs
          obtain ⟨m', hm, w3⟩ := hN ys' σ3 H3 n3
          exact seg_again rfl (ih m' hm n' ys' s₀' s3 σ3 H3 Z' z' hn' w3 I3)
        | cont =>
          obtain ⟨σ3, H3, I3, n3⟩ := hs
          obtain ⟨m', hm, w3⟩ := hN ys' σ3 H3 n3
          exact seg_again rfl (ih m' hm n' ys' s₀' s3 σ3 H3 Z' z' hn' w3 I3)
  exact go m0 n ys s₀ s σ H Z z hn w0 I
theorem gq_for (F : Fam Fm n₀ X) {tg iter : Expr} {body : List Stmt} {pos : Pos} {wi : TI} {gt : TG} {tb : TGn} (hp : ∀ Z, Fm Z → PassesOwn (model X.prog X.w) X.A X.env Z.xe) (hcm : X.calm = true) (hi : ∀ Z, Fm Z → PI Z tg iter wi) (hg : ∀ Z, Fm Z → PG Z tg gt) (hb : GQs Fm n₀ X Dl body tb)
    (hs : ∀ x, foldedSetIterable iter X.env x = pure x := by intro _; rfl) : GQ Fm n₀ X Dl (.For tg iter body [] pos) (tGFor wi gt tb) := by
  refine ⟨fun A ip R n ys s₀ c fs K J gd lv s σ H D Z hip z g hn k I ht => gseg_for hs ?_⟩
  obtain ⟨e1, e2, e3, e4, e5, e6, e7, e8, e9, e10⟩ := F.env z.fm
  have q := (hi Z z.fm).run (Dl.cp s₀ ++ ip) s σ H _ I ht
  rw [e1, e2, e3, e4] at q
  rw [g.over]
  refine wpAny_mono q (fun v s1 h1 => wpAny_mono h1 (fun itv s2 h2 p => ?_) fun x s' hx => k.exc n ys s₀ x s' Z z hx) fun x s' hx => k.exc n ys s₀ x s' Z z hx
  obtain ⟨it, fp, tn, Jt, H2, rfl, I2, T, st2, f2, W, ⟨m0, w0⟩, turn⟩ := h2
  rw [e3, e4, e9] at T
  have loop : ∀ (m n i : Nat) (ys : List V) (s₀ s : Shared) (σ : St) (H : Hp) (Z : Cx), Seat Fm n₀ Dl ys s₀ Z → n + ys.length = sizeLine → W i m ys σ H → tn i s.heap → (∀ b ∈ fp, FpOk Z (Dl.cp s₀ ++ ip) H b) → Inv Z (Dl.cp s₀ ++ ip) σ H s →
      Seg (model X.prog X.w) A R (X.Y3 n₀ Dl) n s₀ (.forLoop tg (.ref it) body [] X.env) ((model X.prog X.w).den (.forLoop tg (.ref it) body [] X.env)) (.ret (backK X.env K J gd lv) none (gd false) (lv []) c p [] :: fs) s := by
    intro m
    induction m using Nat.strongRecOn with
    | ind m ih =>
      intro n i ys s₀ s σ3 H3 Z z hn w3 st3 fr3 I3
      obtain ⟨e1, e2, e3, e4, e5, e6, e7, e8, e9, e10⟩ := F.env z.fm
      have gl := g.loop (k := backK X.env K J gd lv) (l := lv []) (kp := []) (p := p) (c' := .forLoop tg (.ref it) body [] X.env) rfl rfl
      have gb := g.loop (k := backK X.env K J gd lv) (l := lv []) (kp := []) (p := p) (c' := .block [] X.env) rfl rfl
      have ee : ∀ (n : Nat) (ys : List V) (s₀ : Shared) (x : Value) (s' : Shared) (Z : Cx), Seat Fm n₀ Dl ys s₀ Z → Z.xe x s' → Seg (model X.prog X.w) A R (X.Y3 n₀ Dl) n s₀ (.forLoop tg (.ref it) body [] X.env) (marked X.env x) (.ret (backK X.env K J gd lv) none (gd false) (lv []) c p [] :: fs) s' :=
        fun n ys s₀ x s' Z z hx => mark3 F z (hp Z z.fm) g k rfl rfl hx
      refine gseg_turn ?_
      rw [gl.over]
      have cz : Z.calm = true := e10.trans hcm
      rcases turn i m ys σ3 H3 w3 with ⟨stop, qn⟩ | ⟨go, N, hN, step⟩
      · have q := T.done Z e3 e4 e9 cz i (Dl.cp s₀ ++ ip) s σ3 H3 Z.xe I3 fr3 st3 stop
        rw [e2] at q
        refine wpAny_mono q (fun r s4 hr => ?_) fun x s' hx => ee n ys s₀ x s' Z z hx
        obtain ⟨rfl, I4⟩ := hr
        refine seg_again rfl ?_
        show Seg _ A R _ n s₀ _ (((execs [] X.env).onRaise (fun x => do noteFrame x X.env; theTreesLotGoes x)) >>= fun f => (.pure (.done f) : Sem PySem.Fin)) _ s4
        exact seg_leaf (.ok .next) (k.ok n ys s₀ s4 .next Z z hn ⟨σ3, H3, I4, qn⟩)
      · have q := T.item Z e3 e4 e9 cz i (Dl.cp s₀ ++ ip) s σ3 H3 Z.xe I3 fr3 st3 go
        rw [e2] at q
        refine wpAny_mono q (fun r s4 hr => ?_) fun x s' hx => ee n ys s₀ x s' Z z hx
        obtain ⟨u, rfl, h4⟩ := hr
        refine wpAny_mono h4 (fun _ s5 h5 => ?_) fun x s' hx => ee n ys s₀ x s' Z z hx
        obtain ⟨x, H5, I5, r5, y5, st5, fr5⟩ := h5
        have stat5 : ∀ b ∈ fp, FpOk Z (Dl.cp s₀ ++ ip) H5 b := fun b hb => ⟨fr5 b hb, (fr3 b hb).2⟩
        have I5' := I5.pinned stat5 (T.obj _ _ st5)
        have q6 := (hg Z z.fm).run _ s5 σ3 H5 x u _ I5' r5 (step x H5 y5)
        rw [e1, e2, e3, e4] at q6
        refine wpAny_mono q6 (fun _ s6 h6 => ?_) fun x s' hx => ee n ys s₀ x s' Z z hx
        obtain ⟨σ6, H6, I6, q6⟩ := h6
        have hip2 : ∀ p ∈ X.pn ++ (ip ++ pinsAt fp s5.heap), p.1 ∉ Dl.ad := fun p hp hb => by
          rcases List.mem_append.mp hp with hp | hp
          · exact hip p (List.mem_append_left _ hp) hb
          rcases List.mem_append.mp hp with hp | hp
          · exact hip p (List.mem_append_right _ hp) hb
          · obtain ⟨hf, _⟩ := of_pinsAt hp
            obtain ⟨o', e'⟩ := z.ad p.1 hb
            exact (fr3 p.1 hf).2.2.2.2.2 (p.1, o') (List.mem_append_right _ (List.mem_append_left _ (mem_pinsAt hb e'))) rfl
        refine hb.run A (ip ++ pinsAt fp s5.heap) R n ys s₀ _ _ _ _ id id s6 σ6 H6 { D with nx := N, ct := N, bk := D.nx } Z hip2 z gl hn ⟨fun n' ys' s₀' s7 f Z' z' hn' hs => ?_, fun n' ys' s₀' x s7 Z' z' hx => ee n' ys' s₀' x s7 Z' z' hx⟩ (by rw [← List.append_assoc]; exact I6) q6
        have q1 := F.same Z z.fm
        have q2 := F.same Z' z'.fm
        have back : ∀ {σ7 : St} {H7 : Hp}, Inv Z' (Dl.cp s₀' ++ (ip ++ pinsAt fp s5.heap)) σ7 H7 s7 → Inv Z' (Dl.cp s₀' ++ ip) σ7 H7 s7 ∧ tn (i + 1) s7.heap ∧ ∀ b ∈ fp, FpOk Z' (Dl.cp s₀' ++ ip) H7 b := fun {σ7 H7} h7 => by
          rw [← List.append_assoc] at h7
          have pin : ∀ b ∈ fp, ∀ o, s5.heap.get? b = some o → s7.heap.get? b = some o ∧ H7 b = none := fun b hb o e => by
            obtain ⟨r1, r2, _⟩ := h7.pin (b, o) (List.mem_append_right _ (List.mem_append_right _ (mem_pinsAt hb e)))
            exact ⟨r1, r2⟩
          refine ⟨h7.unpinned, T.keep _ _ _ st5 fun b hb o e => (pin b hb o e).1, fun b hb => ?_⟩
          obtain ⟨o, e, _⟩ := T.obj _ _ st5 b hb
          obtain ⟨_, t1, t2, t3, t4, t5⟩ := fr3 b hb
          refine ⟨(pin b hb o e).2, ?_, ?_, ?_, ?_, ?_⟩
          · rw [q2]; rw [q1] at t1; exact t1
          · show b ∉ frs Z'.outer
            rw [q2]; have t2' : b ∉ frs Z.outer := t2; rw [q1] at t2'; exact t2'
          · rw [q2]; rw [q1] at t3
            show b ∈ X.ex ∨ Z'.s_0.heap.objs.size ≤ b
            rw [z'.size, ← z.size]; exact t3
          · rw [q2]; rw [q1] at t4; exact t4
          · rw [q2]; rw [q1] at t5
            intro p hp
            rcases List.mem_append.mp hp with hp | hp
            · exact t5 p (List.mem_append_left _ hp)
            rcases List.mem_append.mp hp with hp | hp
            · obtain ⟨hb', _⟩ := of_pinsAt hp
              obtain ⟨o', e'⟩ := z.ad p.1 hb'
              exact t5 (p.1, o') (List.mem_append_right _ (List.mem_append_left _ (mem_pinsAt hb' e')))
            · exact t5 p (List.mem_append_right _ (List.mem_append_right _ hp))
        cases f with
        | next =>
          obtain ⟨σ7, H7, G7, n7⟩ := hs
          obtain ⟨m', hm, w7⟩ := hN ys' σ7 H7 n7
          obtain ⟨G8, st8, fr8⟩ := back G7
          exact seg_again rfl (ih m' hm n' (i + 1) ys' s₀' s7 σ7 H7 Z' z' hn' w7 st8 fr8 G8)
        | cont =>
          obtain ⟨σ7, H7, G7, n7⟩ := hs
          obtain ⟨m', hm, w7⟩ := hN ys' σ7 H7 n7
          obtain ⟨G8, st8, fr8⟩ := back G7
          exact seg_again rfl (ih m' hm n' (i + 1) ys' s₀' s7 σ7 H7 Z' z' hn' w7 st8 fr8 G8)
        | brk =>
          obtain ⟨σ7, H7, G7, n7⟩ := hs
          exact seg_leaf (.ok .next) (k.ok n' ys' s₀' s7 .next Z' z' hn' ⟨σ7, H7, (back G7).1, n7⟩)
        | ret v =>
          obtain ⟨x7, σ7, H7, G7, r7, n7⟩ := hs
          exact seg_leaf (.ok (.ret v)) (k.ok n' ys' s₀' s7 (.ret v) Z' z' hn' ⟨x7, σ7, H7, (back G7).1, r7, n7⟩)
  exact loop m0 n 0 ys s₀ s2 σ H2 Z z hn w0 st2 f2 I2
end
end L2

set_option Elab.async false
set_option linter.all false
set_option maxRecDepth 100000
set_option maxHeartbeats 4000000
/-! a generator def by its body -/
namespace L2
open PySem PySem.Spec PyProof.Rows GenW
/-- the promise: the arguments, the heap, the deal, what is wanted at the end of all that was handed out, the exception -/
abbrev SpG3 := List V → Hp → Deal → (List V → Hp → Prop) → XK → Prop
section
variable (P : Program) (w : World) (outer : List Env) (n₀ : Nat) (Dl : Deal)
def Er3 (E : XK) (a : Addr) (g : Nat) : Value → Shared → Prop := fun e s1 => ∃ ys HE sE, Dl.cs ys HE sE ∧ n₀ ≤ sE.heap.objs.size ∧ CX P w outer HE (headS sE n₀) E e s1 ∧ s1.heap.IsGen a g
def Fin3 (Q : List V → Hp → Prop) : Nat → Shared → Shared → Prop := fun n s₀ s1 => ∃ ys HE H', Dl.cs ys HE s₀ ∧ n₀ ≤ s₀.heap.objs.size ∧ s1.os = s₀.os ∧ AllBare s1.gens ∧ Un (frs outer) [] HE H' (headH s₀.heap n₀) s1.heap ∧ HOk P w H' s1.heap ∧ (∀ p ∈ Dl.cp s₀, s1.heap.get? p.1 = some p.2 ∧ H' p.1 = none) ∧ Q ys H'
abbrev End3 (Q : List V → Hp → Prop) (E : XK) (a : Addr) (g : Nat) : GenEnd := fun n s₀ r s1 => ((r = .ok (.ret .none) ∨ r = .ok .next) ∧ Fin3 P w outer n₀ Dl Q n s₀ s1) ∨ ∃ e, r = .error e ∧ Er3 P w outer n₀ Dl E a g e s1
end
/-- the deal, with the consumer's places -/
abbrev Deal.at (Dl : Deal) (ad : List Addr) : Deal := { Dl with ad := ad }
/-- what its call gives -/
def Made3 (P : Program) (w : World) (k : Nat) (base : Heap) (outer : List Env) (H : Hp) (s : Shared) (AD : Deal → (List V → Hp → Prop) → Prop) (E : XK) (u : Value) (s' : Shared) : Prop :=
  ∃ (a : Addr) (g : Nat) (c : Code) (go : Obj), u = .ref a ∧ s.heap.objs.size ≤ a ∧ a < s'.heap.objs.size ∧ s'.heap.get? a = some go ∧ (∀ h : Heap, h.get? a = some go → h.IsGen a g) ∧ s'.gens[g]? = some (.fresh c) ∧ s'.os = s.os ∧ AllBare s'.gens ∧ (∀ b o, s.heap.get? b = some o → s'.heap.get? b = some o) ∧
    ∀ (A : Around) (s2 : Shared) (Dl : Deal) (Q : List V → Hp → Prop), AD Dl Q → Room k A → A.frames = some outer → (∀ b o, s'.heap.get? b = some o → s2.heap.get? b = some o) → s2.os = s.os → AllBare s2.gens → (∀ b ∈ Dl.ad, s'.heap.objs.size ≤ b ∧ ∃ o, s2.heap.get? b = some o ∧ ∀ v, o.data ≠ .cell v) → Dl.cs [] H s2 →
      Seg (model P w) A (End3 P w outer s.heap.objs.size Dl Q E a g) (GY3 P w base outer [(a, go)] s.heap.objs.size Dl) sizeLine s2 c ((model P w).den c) [] s2
structure GFn3 (P : Program) (w : World) (K : PySem.W.Frag) (mg : Str → Option Value) (base : Heap) (k : Nat) (f : Addr) (fd : FuncData) (ps : List Str) (sp : SpG3) : Prop where
  len : ∀ vs H Dl Q E, sp vs H Dl Q E → vs.length = ps.length
  run : ∀ (A : Around) (outer : List Env) (s : Shared) (H : Hp) (args : Args) (us : List Value) (vs : List V) (AD : Deal → (List V → Hp → Prop) → Prop) (E : XK), (∃ Dl Q, AD Dl Q) → Room k A → Env0 P w K mg base A outer s H → BindsTo s fd args (ps.zip us) → Vals vs us → (∀ Dl Q, AD Dl Q → sp vs H Dl Q E) →
    codeAny (model P w) A (.call (.ref f) args) (fun r s' => match r with | .ok (.ret u) => Made3 P w k base outer H s AD E u s' | _ => False) s
section
variable {P : Program} {w : World} {K : PySem.W.Frag} {mg : Str → Option Value} {base : Heap}
/-- the family of a call: its frame stands at n₀ -/
def FmG (P : Program) (w : World) (K : PySem.W.Frag) (mg : Str → Option Value) (base : Heap) (N : List Str) (qual : Str) (scope : Scope) (f : Addr) (cd : Value) (A : Around) (outer : List Env) (E : XK) (pn : List (Addr × Obj)) (n₀ : Nat) (Z : Cx) : Prop :=
  ∃ s H, s.heap.objs.size = n₀ ∧ Z = gcxOf P w K mg base N qual scope f cd A outer s H E pn
theorem fam_g {N : List Str} {qual : Str} {scope : Scope} {f : Addr} {cd : Value} {A : Around} {outer : List Env} {E : XK} {pn : List (Addr × Obj)} {s : Shared} {H : Hp} (hb : base.objs.size ≤ s.heap.objs.size) :
    Fam (FmG P w K mg base N qual scope f cd A outer E pn s.heap.objs.size) s.heap.objs.size (gcxOf P w K mg base N qual scope f cd A outer s H E pn) := by
  refine ⟨fun Z ⟨s', H', hs, hZ⟩ => ?_, fun s' H' hs => ⟨_, ⟨s', H', hs, rfl⟩, rfl, rfl⟩, rfl, hb, fun Z ⟨s', H', hs, hZ⟩ x => (by rw [hZ]; rfl), rfl⟩
  subst hZ
  unfold gcxOf cxOf
  rw [hs]
/-- a member's room -/
theorem FmG.room {qual : Str} {scope : Scope} {f : Addr} {cd : Value} {A : Around} {s s' : Shared} {k : Nat} (hr : Room k (A.deeper (envOfC qual scope s.heap.objs.size f cd))) (hs : s'.heap.objs.size = s.heap.objs.size) :
    Room k (A.deeper (envOfC qual scope s'.heap.objs.size f cd)) := by rw [hs]; exact hr
theorem gfn3_of {k : Nat} {f : Addr} {name qual : Str} {params : Arguments} {body : List Stmt} {scope : Scope} {dV kV doc pm cdv ct oc : Value} {an od : Option Addr}
    {osl : Array (Option Value)} {N ps : List Str} {sp : SpG3} (lk : K.lookup f = some ⟨oc, od, .func (PySem.W.fnOf name qual params body scope dV kV doc pm an cdv ct), osl⟩) (hcd : PySem.W.codeIn K cdv qual = true) (S : GScope N ps scope)
    (len : ∀ vs H Dl Q E, sp vs H Dl Q E → vs.length = ps.length)
    (hbody : ∀ (A : Around) (outer : List Env) (s : Shared) (H : Hp) (vs : List V) (Dl : Deal) (Q : List V → Hp → Prop) (E : XK) (pn : List (Addr × Obj)), base.objs.size ≤ s.heap.objs.size → Room k (A.deeper (envOfC qual scope s.heap.objs.size f cdv)) → sp vs H Dl Q E →
      ∃ t, GQs (FmG P w K mg base N qual scope f cdv A outer E pn s.heap.objs.size) s.heap.objs.size (gcxOf P w K mg base N qual scope f cdv A outer s H E pn) Dl body t ∧ t { nx := fun ys _ H' => Q ys H', rt := fun ys v H' => v = .non ∧ Q ys H' } [] (start N vs) H) :
    GFn3 P w K mg base (k + 1) f (PySem.W.fnOf name qual params body scope dV kV doc pm an cdv ct) ps sp := by
  refine ⟨len, fun A outer s H args us vs AD E hAD hr e0 hb r hsp => ?_⟩
  obtain ⟨Dl0, Q0, hA0⟩ := hAD
  have hl := len _ _ _ _ _ (hsp Dl0 Q0 hA0)
  have kin : K.In s.heap := e0.mod.kin.keeps fun b o e => (e0.bs b o e).1
  have lim : s.heap.NoLimit := e0.mod.nolimit.keeps fun b o e => (e0.bs b o e).1
  have kinds : ∀ y ∈ ps.zip us, scope.names.lookup y.1 = some .local ∨ (scope.names.lookup y.1 = some .cell ∧ ((cellsFrom (s.heap.objs.size + 1) scope.names []).lookup y.1).isSome = true) := fun ⟨n, v⟩ hy =>
    (S.par n (List.of_mem_zip hy).1).imp id fun q => ⟨q, PySem.W.cellsFrom_some _ _ _ (.inl q)⟩
  refine codeAny_call_generator hr.depth (kin _ _ lk) rfl S.co S.gen rfl (PySem.W.codeRec_of kin hcd) (hb _ _ _ _ (wpAny_newFunctionEnv_cells S.kind kinds fun env he s1 x => ?_))
  subst he
  have lim1 : s1.heap.NoLimit := lim.keeps x.toInCall.keep
  refine ⟨lim1, ?_⟩
  obtain ⟨h1, tk, es1, hk1⟩ := x.done
  have os1 : s1.os = s.os := by rw [es1]
  have gen1 : s1.gens = s.gens := by rw [es1]
  have lt1 : s.heap.objs.size < s1.heap.objs.size := x.toInCall.ns.lt
  have kp1 : ∀ b o, s.heap.get? b = some o → s1.heap.get? b = some o := x.toInCall.keep
  have main : ∀ (go : Obj) (nm qn : Value) (tk2 : Nat), go.cls = .type "generator" → go.data = .fields #[.int s1.gens.size 0, nm, qn] → go.slots = #[] → (∀ h : Heap, (h.push go).get? h.objs.size = some go) →
      Made3 P w (k + 1) base outer H s AD E (.ref s1.heap.objs.size) { s1 with gens := s1.gens.push (.fresh (.func body (envOfC qual scope s.heap.objs.size f cdv))), toks := tk2, heap := s1.heap.push go } := by
    intro go nm qn tk2 hgc hgd hgs hgp
    have isg : ∀ h : Heap, h.get? s1.heap.objs.size = some go → h.IsGen s1.heap.objs.size s1.gens.size := fun h e => ⟨go, nm, qn, e, hgc, hgd, hgs⟩
    refine ⟨s1.heap.objs.size, s1.gens.size, _, go, rfl, Nat.le_of_lt lt1, ?_, hgp _, isg, Array.getElem?_push_size .., os1, ?_, fun b o e => Heap.get?_push_of_some _ (kp1 b o e), ?_⟩
    · show _ < (s1.heap.push _).objs.size
      rw [Heap.size_push]; exact Nat.lt_succ_self _
    · exact AllBare.push (by rw [gen1]; exact e0.bare) rfl
    intro Aw s2 Dl Q hA hrw hfr hk2 hos hba had hcs
    have kp2 : ∀ b o, s1.heap.get? b = some o → s2.heap.get? b = some o := fun b o e => hk2 b o (Heap.get?_push_of_some _ e)
    have kp3 : ∀ b o, s.heap.get? b = some o → s2.heap.get? b = some o := fun b o e => kp2 b o (kp1 b o e)
    have hea : s2.heap.get? s1.heap.objs.size = some go := hk2 s1.heap.objs.size go (hgp _)
    have sz2 : s.heap.objs.size ≤ s2.heap.objs.size := Nat.le_of_lt (Nat.lt_trans lt1 (Heap.lt_size hea))
    have e0w : Env0 P w K mg base Aw outer s H := ⟨hfr, e0.mod, e0.bs, e0.bsz, e0.funs, e0.frf, e0.hok, e0.bare⟩
    obtain ⟨t, ht, hq⟩ := hbody Aw outer s H vs Dl Q E [(s1.heap.objs.size, go)] e0.bsz (hrw.deeper _) (hsp Dl Q hA)
    have I1 : Inv (gcxOf P w K mg base N qual scope f cdv Aw outer s H E []) [] (start N vs) H s1 := inv_startG S hrw.hd e0w hl r x
    have I2 : Inv (gcxOf P w K mg base N qual scope f cdv Aw outer s H E []) [] (start N vs) H s2 := I1.call' (ch := []) (hos.trans os1.symm) (Un.kept kp2) (I1.hok.kept kp2) hba fun b z => nomatch z
    have hn1 : H s1.heap.objs.size = none := I1.hok.fresh (Nat.le_refl _)
    have hado : AdOk Dl.ad s.heap.objs.size outer H s2.heap := fun b hb => by
      obtain ⟨q1, q2⟩ := had b hb
      have q1 : (s1.heap.push go).objs.size ≤ b := q1
      rw [Heap.size_push] at q1
      have q3 : s1.heap.objs.size ≤ b := Nat.le_of_succ_le q1
      exact ⟨Nat.lt_of_lt_of_le lt1 q3, I1.hok.fresh q3, I1.nofs q3, q2⟩
    have I3 : Inv (gcxOf P w K mg base N qual scope f cdv Aw outer s H E [(s1.heap.objs.size, go)]) (pinsAt Dl.ad s2.heap ++ []) (start N vs) H s2 := Inv.pinnedG I2 fun p hp => by
      rcases List.mem_append.mp hp with hp | hp
      · rw [List.mem_singleton.mp hp]
        exact ⟨hea, hn1, Nat.ne_of_gt lt1, I1.nofs (Nat.le_refl _), fun v q => by rw [hgd] at q; cases q⟩
      · rw [List.append_nil] at hp
        obtain ⟨hb, e⟩ := of_pinsAt hp
        obtain ⟨w1, w2, w3, o, w4, w5⟩ := hado p.1 hb
        rw [e] at w4
        cases w4
        exact ⟨e, w2, Nat.ne_of_gt w1, w3, w5⟩
    have F := fam_g (P := P) (w := w) (K := K) (mg := mg) (N := N) (qual := qual) (scope := scope) (f := f) (cd := cdv) (A := Aw) (outer := outer) (E := E) (pn := [(s1.heap.objs.size, go)]) (s := s) (H := H) e0.bsz
    have wk : Wk P w base outer s.heap.objs.size Dl.ad H s2 := by
      refine ⟨hba, fun b o e => ⟨kp3 b o (e0.bs b o e).1, (e0.bs b o e).2⟩, Heap.FunFrames.of_keeps (fun b o e _ => ⟨o, kp3 b o e, rfl⟩) e0.funs, fun b hb => ?_, e0.hok.kept kp3, sz2, hado⟩
      obtain ⟨_, o, ho, _⟩ := e0.funs.mem hb
      exact ⟨Heap.lt_size ho, e0.frf b hb⟩
    obtain ⟨Z, f1, f2, f3, I4⟩ := reseat F (Z := gcxOf P w K mg base N qual scope f cdv Aw outer s H E [(s1.heap.objs.size, go)]) ⟨s, H, rfl, rfl⟩ rfl I3 wk fun b mb o e => ⟨e, by
      rcases mb with rfl | ⟨y, hy⟩ | ⟨p, hp, rfl⟩
      · exact I3.free
      · exact I3.freeC y b hy
      · exact (I3.pin p ((List.mem_append.mp hp).elim (List.mem_append_left _) fun h => (by cases h))).2.1⟩
    have zz : Seat (FmG P w K mg base N qual scope f cdv Aw outer E [(s1.heap.objs.size, go)] s.heap.objs.size) s.heap.objs.size Dl [] s2 Z := ⟨f1, f2, by rw [f3]; exact hcs, sz2, fun b hb => let ⟨_, _, _, o, e, _⟩ := hado b hb; ⟨o, e⟩⟩
    have fin : ∀ {n : Nat} {ys : List V} {s₀ s' : Shared} {σ' : St} {H' : Hp} {Z : Cx}, Seat (FmG P w K mg base N qual scope f cdv Aw outer E [(s1.heap.objs.size, go)] s.heap.objs.size) s.heap.objs.size Dl ys s₀ Z → Inv Z (Dl.cp s₀ ++ []) σ' H' s' → Q ys H' → Fin3 P w outer s.heap.objs.size Dl Q n s₀ s' := fun {n ys s₀ s' σ' H' Z} z I q => by
      obtain ⟨e1, e2, e3, e4, e5, e6, e7, e8, _⟩ := F.env z.fm
      have hb := I.base
      have hfs : Z.fs = frs outer := by show frs Z.outer = _; rw [e5]; rfl
      have hex : Z.ex = [] := by rw [e8]; rfl
      rw [hfs, hex, z.at0] at hb
      have hk := I.hok
      rw [e3, e4] at hk
      exact ⟨ys, Z.H_0, H', z.cs, z.sz, by rw [I.os, z.at0]; rfl, I.bare, hb, hk, fun p hp => let ⟨r1, r2, _⟩ := I.pin p (List.mem_append_right _ (List.mem_append_left _ hp)); ⟨r1, r2⟩, q⟩
    have hip0 : ∀ p ∈ [(s1.heap.objs.size, go)] ++ ([] : List (Addr × Obj)), p.1 ∉ Dl.ad := fun p hp hb => by
      rw [List.append_nil] at hp
      have q1 : (s1.heap.push go).objs.size ≤ p.1 := (had p.1 hb).1
      rw [Heap.size_push, List.mem_singleton.mp hp] at q1
      exact absurd q1 (Nat.not_succ_le_self _)
    refine seg_func ?_
    refine ht.run Aw [] _ sizeLine [] s2 _ [] _ _ id id s2 (start N vs) H _ Z hip0 zz ⟨over_func, rfl, rfl, rfl⟩ (Nat.add_zero _) ⟨fun n ys s₀ s' fl Z z hn hs => ?_, fun n ys s₀ e s' Z z hx => ?_⟩ I4 hq
    · cases fl with
      | next =>
        obtain ⟨σ', H', I, q⟩ := hs
        exact seg_end (.ok (.ret .none)) (.inl ⟨.inl rfl, fin z I q⟩)
      | brk => obtain ⟨_, _, _, q⟩ := hs; exact False.elim q
      | cont => obtain ⟨_, _, _, q⟩ := hs; exact False.elim q
      | ret u =>
        obtain ⟨v, σ', H', I, rv, rfl, q⟩ := hs
        obtain rfl : u = Value.none := rv
        exact seg_end (.ok (.ret .none)) (.inl ⟨.inl rfl, fin z I q⟩)
    · obtain ⟨s', H', hs', rfl⟩ := z.fm
      refine seg_wrap ?_
      rw [over_func]
      have hx' : wpAny (model P w) (Aw.deeper (envOfC qual scope s'.heap.objs.size f cdv)) (leaving (envOfC qual scope s'.heap.objs.size f cdv) e) (fun _ s'' => CX P w outer H' s' E e s'' ∧ ∀ p ∈ [(s1.heap.objs.size, go)], s''.heap.get? p.1 = some p.2) (fun _ _ => False) _ := hx
      rw [hs'] at hx'
      refine wpAny_mono hx' (fun _ s'' q => seg_end (.error e) (.inr ⟨e, rfl, ys, H', s₀, z.cs, z.sz, ?_, isg _ (q.2 _ (List.mem_singleton.mpr rfl))⟩)) fun _ s'' q => q.elim
      have ea : s' = headS s₀ s.heap.objs.size := z.at0
      rw [← ea]; exact q.1
  exact main _ _ _ _ rfl rfl rfl fun h => Heap.get?_push_size _ rfl
structure OwnG3 (P : Program) (w : World) (K : PySem.W.Frag) (mg : Str → Option Value) (base : Heap) (x : Str) (k : Nat) (ps : List Str) (sp : SpG3) : Prop where
  ex : ∃ (f : Addr) (fd : FuncData), GFn3 P w K mg base k f fd ps sp ∧ mg x = some (.ref f) ∧ PySem.W.keepIn K (.ref f) = true ∧ Binds K fd ps []
theorem DefAt.ownG3 {x : Str} {st : Stmt} {ps : List Str} {k : Nat} {sp : SpG3} (D : DefAt K mg x st ps) (h : ∀ f fd, Fun K x x st f fd → GFn3 P w K mg base k f fd ps sp) : OwnG3 P w K mg base x k ps sp := by
  obtain ⟨f, fd, F, hm, hb⟩ := D.ex
  exact ⟨f, fd, h f fd F, hm, F.kp, hb⟩
/-- .. by its text -/
theorem gfn3_fun {x qual : Str} {st : Stmt} {f : Addr} {fd : FuncData} {N ps : List Str} {k : Nat} {sp : SpG3} (F : Fun K x qual st f fd) (S : GScope N ps (defScope st)) (len : ∀ vs H Dl Q E, sp vs H Dl Q E → vs.length = ps.length)
    (hbody : ∀ (cdv : Value) (A : Around) (outer : List Env) (s : Shared) (H : Hp) (vs : List V) (Dl : Deal) (Q : List V → Hp → Prop) (E : XK) (pn : List (Addr × Obj)) (Fm : Cx → Prop) (X : Cx), Fm = FmG P w K mg base N qual (defScope st) f cdv A outer E pn s.heap.objs.size → X = gcxOf P w K mg base N qual (defScope st) f cdv A outer s H E pn →
      Fam Fm s.heap.objs.size X → Room k (A.deeper (envOfC qual (defScope st) s.heap.objs.size f cdv)) → sp vs H Dl Q E →
      ∃ t, GQs Fm s.heap.objs.size X Dl (defBody st) t ∧ t { nx := fun ys _ H' => Q ys H', rt := fun ys v H' => v = .non ∧ Q ys H' } [] (start N vs) H) : GFn3 P w K mg base (k + 1) f fd ps sp := by
  obtain ⟨oc, od, kV, doc, pm, an, cdv, ct, osl, rfl, lk, hcd⟩ := F.ex
  exact gfn3_of lk hcd S len fun A outer s H vs Dl Q E pn hb hr hsp => hbody cdv A outer s H vs Dl Q E pn _ _ rfl rfl (fam_g hb) hr hsp
end
end L2

set_option Elab.async false
set_option linter.all false
set_option maxRecDepth 100000
set_option maxHeartbeats 4000000
/-! the consumer: what it may do between the items -/
namespace L2
open PySem PySem.Spec PyProof.Rows GenW
/-- no generator is touched, what is untracked stays -/
structure Soft (X : Cx) (s : Shared) (H : Hp) (s' : Shared) (H' : Hp) : Prop where
  gens : s'.gens = s.gens
  size : s.heap.objs.size ≤ s'.heap.objs.size
  keep : ∀ b o, s.heap.get? b = some o → H b = none → b ∉ frs X.stack → s'.heap.get? b = some o ∧ H' b = none
theorem Soft.refl {X : Cx} {s : Shared} {H : Hp} : Soft X s H s H := ⟨rfl, Nat.le_refl _, fun b o e n _ => ⟨e, n⟩⟩
theorem Soft.trans {X : Cx} {s1 s2 s3 : Shared} {H1 H2 H3 : Hp} (a : Soft X s1 H1 s2 H2) (b : Soft X s2 H2 s3 H3) : Soft X s1 H1 s3 H3 :=
  ⟨b.gens.trans a.gens, Nat.le_trans a.size b.size, fun c o e n hc => let ⟨e2, n2⟩ := a.keep c o e n hc; b.keep c o e2 n2 hc⟩
/-- a target -/
structure PGq (X : Cx) (tg : Expr) (t : TG) : Prop where
  run : ∀ (pins : List (Addr × Obj)) (s : Shared) (σ : St) (H : Hp) (v : V) (u : Value) (Q : St → Hp → Prop), Inv X pins σ H s → RelV v u → t v σ H Q →
    wpAny (model X.prog X.w) X.A (assign tg X.env u) (fun _ s' => ∃ σ' H', Inv X pins σ' H' s' ∧ Soft X s H s' H' ∧ Q σ' H') X.xe s
/-- an expression -/
structure PEq (X : Cx) (e : Expr) (t : TE) : Prop where
  run : ∀ (pins : List (Addr × Obj)) (s : Shared) (σ : St) (H : Hp) (Q : VK), Inv X pins σ H s → t σ H Q → wpAny (model X.prog X.w) X.A (eval e X.env) (fun u s' => ∃ x H', Inv X pins σ H' s' ∧ Soft X s H s' H' ∧ RelV x u ∧ Q x H') X.xe s
/-- a body -/
structure PBq (X : Cx) (body : List Stmt) (t : TS) : Prop where
  run : ∀ (pins : List (Addr × Obj)) (s : Shared) (σ : St) (H : Hp) (D : Ends), Inv X pins σ H s → t D σ H → wpAny (model X.prog X.w) X.A (execs body X.env) (fun f s' => match f with
    | .next => ∃ σ' H', Inv X pins σ' H' s' ∧ Soft X s H s' H' ∧ D.nx σ' H'
    | .cont => ∃ σ' H', Inv X pins σ' H' s' ∧ Soft X s H s' H' ∧ D.ct σ' H'
    | .brk => ∃ σ' H', Inv X pins σ' H' s' ∧ D.bk σ' H'
    | .ret u => ∃ v σ' H', Inv X pins σ' H' s' ∧ RelV v u ∧ D.rt v H') X.xe s
section
variable {X : Cx} {pins : List (Addr × Obj)} {σ : St} {H : Hp} {s : Shared}
/-- a body that never comes to its end -/
theorem pbq_end {body : List Stmt} {t : TS} (h : PSs X body t) : PBq X body (fun D σ H => t { D with nx := fun _ _ => False, ct := fun _ _ => False } σ H) := by
  refine ⟨fun pins s σ H D I q => thn (h.run pins s σ H _ I q) fun f s' hs => ?_⟩
  cases f with
  | next => obtain ⟨_, _, _, z⟩ := hs; exact z.elim
  | cont => obtain ⟨_, _, _, z⟩ := hs; exact z.elim
  | brk => exact hs
  | ret u => exact hs
theorem peq_var {i : Nat} {x : Str} {pos : Pos} (hN : X.N[i]? = some x) (hv : X.env.scope.names.lookup x = some .local) (hd : (x == ("__debug__" : Str)) = false := by decide) : PEq X (.Name x pos) (tVar i) := by
  refine ⟨fun pins s σ H Q I ⟨v, e, h⟩ => ?_⟩
  obtain ⟨m, hn, hl⟩ := I.loc
  obtain ⟨u, r, l⟩ := hl i x v hN e (.inl hv)
  rcases l with ⟨hk, hm⟩ | ⟨hk, _⟩
  · exact wpAny_Name (wpAny_loadName_local I.ok.kind hk hn hm ⟨v, H, I, .refl, r, h⟩) hd
  · have hk' : X.env.scope.names.lookup x = some .cell ∨ X.env.scope.names.lookup x = some .free := hk
    rw [hv] at hk'
    rcases hk' with z | z <;> cases z
theorem pgq_name {i : Nat} {x : Str} {pos : Pos} (hs : X.stack = X.env :: X.outer) (hf : X.env.frame = some X.env.locals) (hN : X.N.Nodup) (hi : X.N[i]? = some x) (hv : X.env.scope.names.lookup x = some .local) : PGq X (.Name x pos) (gName i) := by
  refine ⟨fun pins s σ H v u Q I r h => wpAny_assign_Name ?_⟩
  obtain ⟨m, hn, hl⟩ := id I.loc
  have inF : X.env.locals ∈ frs X.stack := by rw [hs]; exact List.mem_filterMap.mpr ⟨_, List.mem_cons_self, hf⟩
  refine wpAny_storeName_local hv hn (fun h' hn' hb => ?_) (by rw [I.ok.kind]; rfl)
  have ne : ∀ b o, s.heap.get? b = some o → b ≠ X.env.locals → h'.get? b = some o := fun b o e z => (hb.2 b z).trans e
  have old : ∀ b o, X.s_0.heap.get? b = some o → b ≠ X.env.locals := fun b o e => Nat.ne_of_lt (Nat.lt_of_lt_of_le (Heap.lt_size e) I.ok.above)
  have hlen : i < σ.length := by rw [I.len]; exact (List.getElem?_eq_some_iff.mp hi).1
  refine ⟨_, H, ⟨I.ok, I.os, I.bare, ?_, ⟨_, hn', fun j y v' t1 t2 t3 => ?_⟩, fun y c e => ?_, I.free, I.freeC, fun p hp => ?_, ?_, by rw [List.length_set]; exact I.len⟩, ⟨rfl, Nat.le_of_eq hb.1.symm, fun b o e n hF => ⟨ne b o e fun z => hF (by rw [z]; exact inF), n⟩⟩, h⟩
  · refine ⟨fun b o e n a1 a2 => ne b o (I.base.keep b o e n a1 a2) (old b o e), fun b o e n a1 a2 => ?_, I.base.free, fun b o e a2 => ?_, I.base.tups, I.base.frzs, I.base.tbls⟩
    · obtain ⟨sl, q⟩ := I.base.slot b o e n a1 a2
      exact ⟨sl, ne b _ q (old b o e)⟩
    · obtain ⟨o', q⟩ := I.base.there b o e a2
      exact ⟨o', ne b _ q (old b o e)⟩
  · by_cases hj : j = i
    · subst hj
      rw [hi] at t1; cases t1
      rw [List.getElem?_set_self hlen] at t2
      cases t2
      exact ⟨u, r, .inl ⟨hv, if_pos rfl⟩⟩
    · rw [List.getElem?_set_ne (fun z => hj z.symm)] at t2
      obtain ⟨u', r', q⟩ := hl j y v' t1 t2 t3
      have hy : y ≠ x := fun z => hj (nodup_ix hN t1 (by rw [z]; exact hi))
      rcases q with ⟨k, e⟩ | ⟨k, c, e, o, ho, hd⟩
      · exact ⟨u', r', .inl ⟨k, (if_neg hy).trans e⟩⟩
      · exact ⟨u', r', .inr ⟨k, c, e, o, ne c o ho (I.cne y c e), hd⟩⟩
  · obtain ⟨w, o, ho, hd⟩ := I.cell y c e
    exact ⟨w, o, ne c o ho (I.cne y c e), hd⟩
  · obtain ⟨a1, a2, a3, a4, a5⟩ := I.pin p hp
    exact ⟨ne p.1 p.2 a1 a3, a2, a3, a4, a5⟩
  · intro b ob e
    refine (I.hok b ob e).stay (fun c w hc q => ne c w q fun z => ?_) (fun _ q => q) fun _ _ q => q
    subst z
    have hF := I.free
    rcases hc with hc | hc
    · rw [← hc, hF] at e; cases e
    · rw [hF] at hc; cases hc
/-- l.append(x) -/
def tAppq (i j : Nat) : TS := fun D σ H => ∃ l x xs, σ[i]? = some (some (.ref l)) ∧ σ[j]? = some (some x) ∧ H l = some (.lst xs) ∧ xs.length < sizeLine ∧ D.nx σ (upd H l (.lst (xs ++ [x])))
theorem pbq_app {i j : Nat} {l x : Str} {p1 p2 ap pos pos2 : Pos} (hi : X.N[i]? = some l) (hl : X.env.scope.names.lookup l = some .local) (hj : X.N[j]? = some x) (hx : X.env.scope.names.lookup x = some .local)
    (hbase : attributeBase (.Name l p1) "append" X.env (eval (.Name l p1) X.env) = eval (.Name l p1) X.env := by rfl)
    (hfew : ((backTo pos (starEach [.Name x p2] X.env)).all (fun x => !x.1) && (backToKw pos (keywordEach [] X.env)).all (fun x => x.1.isSome) && decide (([Expr.Name x p2] : List Expr).length + ([] : List Keyword).length + (if ([] : List Keyword).isEmpty then 0 else 1) < 30)) = true := by rfl)
    (hline : (ap.endLine == pos.line) = true := by rfl) (htr : backTo pos (starEach [.Name x p2] X.env) = [(false, eval (.Name x p2) X.env)] := by rfl)
    (hin : interactive X.env = false := by rfl) (hsw : swapsWith (.Call (.Attribute (.Name l p1) "append" ap) [.Name x p2] [] pos) none pos2.line X.env = pure false := by rfl)
    (hd : (l == ("__debug__" : Str)) = false := by decide) (hd2 : (x == ("__debug__" : Str)) = false := by decide) :
    PBq X [.Expr (.Call (.Attribute (.Name l p1) "append" ap) [.Name x p2] [] pos) pos2] (tAppq i j) := by
  refine ⟨fun pins s σ H D I ⟨a, y, xs, e1, e2, hH, hz, q⟩ => ?_⟩
  refine wpAny_execs_cons ?_
  refine wpAny_Expr ?_ hin hsw
  refine wpAny_Call_append hbase hfew hline htr (thn ((peq_var hi hl hd).run pins s σ H (fun v H' => v = .ref a ∧ H' = H) I ⟨_, e1, rfl, rfl⟩) fun u s1 ⟨x1, H1, I1, S1, r1, q1, q2⟩ => ?_)
  subst q1 q2
  cases r1
  obtain ⟨z, its, n, r, hl', e⟩ := I1.lstM hH
  refine ⟨a, its.toArray, rfl, ⟨_, n, e, rfl, rfl, rfl⟩, thn ((peq_var hj hx hd2).run pins s1 σ H1 (fun v H' => v = y ∧ H' = H1) I1 ⟨_, e2, rfl, rfl⟩) fun u2 s2 ⟨x2, H2, I2, S2, r2, q1, q2⟩ => ?_⟩
  subst q1 q2
  obtain ⟨z, its, n, r, hl', e⟩ := I2.lstM hH
  refine call_meets F.slot_list_append ⟨_, e, rfl⟩ F.entry_list_append (F.args_list_append_2 _ _) (PySem.list_append a its.toArray n u2 (by rw [List.size_toArray]; omega)) ⟨e, ?_⟩
  refine wpAny_execs_nil ⟨σ, _, I2.lset (its' := its ++ [u2]) hH e (by simp) (r.append (.cons r2 .nil)) (by rw [List.length_append, List.length_singleton]; omega), (S1.trans S2).trans ⟨rfl, Nat.le_of_eq (Heap.size_update _ _ _).symm, fun b o eb nb _ => ?_⟩, q⟩
  have hb : b ≠ a := fun z => by rw [z, hH] at nb; cases nb
  exact ⟨(Heap.get?_update_other _ _ (Ne.symm hb)).trans eb, by rw [upd_ne hb]; exact nb⟩
end
end L2

set_option Elab.async false
set_option linter.all false
set_option maxRecDepth 100000
set_option maxHeartbeats 4000000
/-! for x in f(..): over a generator def's call -/
namespace L2
open PySem PySem.Spec PyProof.Rows GenW
/-- what stands in the consumer's frame lies below n₀ -/
structure LowX (X : Cx) (pins : List (Addr × Obj)) (n₀ : Nat) : Prop where
  s0 : X.s_0.heap.objs.size ≤ n₀
  loc : X.env.locals < n₀
  cell : ∀ x c, X.env.cells.lookup x = some c → c < n₀
  pin : ∀ p ∈ X.pn ++ pins, p.1 < n₀
section
variable {X : Cx} {pins : List (Addr × Obj)} {σ : St} {H H1 : Hp} {s s1 : Shared} {n₀ : Nat}
theorem Inv.low (I : Inv X pins σ H s) : LowX X pins s.heap.objs.size :=
  ⟨I.sz, I.lt, fun x c e => let ⟨_, _, ho, _⟩ := I.cell x c e; Heap.lt_size ho, fun p hp => Heap.lt_size (I.pin p hp).1⟩
theorem Inv.gensTo (I : Inv X pins σ H s) {G : Array GenState} (h : AllBare G) : Inv X pins σ H { s with gens := G } :=
  I.call' (ch := []) rfl Un.refl I.hok h fun _ z => nomatch z
/-- the places from n₀ on -/
def upFrom (n₀ : Nat) (h : Heap) : List Addr := (List.range h.objs.size).filter fun b => decide (n₀ ≤ b)
theorem upFrom_not {h : Heap} {b : Addr} {o : Obj} (e : h.get? b = some o) (hb : b ∉ upFrom n₀ h) : b < n₀ := by
  refine Nat.lt_of_not_le fun z => hb (List.mem_filter.mpr ⟨List.mem_range.mpr (Heap.lt_size e), decide_eq_true z⟩)
theorem LowX.up (L : LowX X pins n₀) {h : Heap} : ∀ b ∈ upFrom n₀ h, (b ∈ X.ex ∨ X.s_0.heap.objs.size ≤ b) ∧ b ≠ X.env.locals ∧ (∀ x c, X.env.cells.lookup x = some c → c ≠ b) ∧ ∀ p ∈ X.pn ++ pins, p.1 ≠ b := fun b hb => by
  have hn : n₀ ≤ b := of_decide_eq_true (List.mem_filter.mp hb).2
  refine ⟨.inr (Nat.le_trans L.s0 hn), fun z => ?_, fun x c e z => ?_, fun p hp z => ?_⟩
  · rw [z] at hn; exact absurd (Nat.lt_of_lt_of_le L.loc hn) (Nat.lt_irrefl _)
  · rw [← z] at hn; exact absurd (Nat.lt_of_lt_of_le (L.cell x c e) hn) (Nat.lt_irrefl _)
  · rw [← z] at hn; exact absurd (Nat.lt_of_lt_of_le (L.pin p hp) hn) (Nat.lt_irrefl _)
/-- behind a stretch of the generator -/
theorem Inv.stretch (I : Inv X pins σ H s) (L : LowX X pins n₀) (u : Un (frs X.stack) [] H H1 (headH s.heap n₀) s1.heap) (hok : HOk X.prog X.w H1 s1.heap) (os : s1.os = s.os) (ag : AllBare s1.gens) : Inv X pins σ H1 s1 := by
  have hh : ∀ b o, s.heap.get? b = some o → b ∉ upFrom n₀ s.heap → (headH s.heap n₀).get? b = some o := fun b o e hb => (headH_get (upFrom_not e hb)).trans e
  exact I.call' (ch := upFrom n₀ s.heap) os ⟨fun b o e n hb hc => u.keep b o (hh b o e hc) n hb (fun z => nomatch z), fun b o e n hb hc => u.slot b o (hh b o e hc) n hb (fun z => nomatch z), fun b o e n hc => u.free b o (hh b o e hc) n (fun z => nomatch z),
    fun b o e hc => u.there b o (hh b o e hc) (fun z => nomatch z), u.tups, u.frzs, u.tbls⟩ hok ag L.up
/-- an exception that the generator let out -/
theorem XE.of_stretch {W : WX} {E : XK} (I : Inv X pins σ H s) (L : LowX X pins n₀) (hn : n₀ ≤ s.heap.objs.size) (hW : ∀ cls d H', E cls d H' → W cls d σ H') {u : Value} {G : Array GenState} (c : CX X.prog X.w X.stack H (headS s n₀) E u s1) (hG : AllBare G) : XE X W u { s1 with gens := G } := by
  obtain ⟨a, B, H', cls, d, rfl, fl, hok, ub, na, os, ag, hE⟩ := c
  obtain ⟨R, g1, g2⟩ := restrict s1.heap fun b => (B.get? b).isSome || decide (b ∈ frs X.stack)
  have st : B.StaysIn s1.heap := fl.1
  have gB : ∀ b o, B.get? b = some o → R.get? b = some o := fun b o e => (g1 b (by rw [e]; rfl)).trans (st b o e)
  have gF : ∀ b, b ∈ frs X.stack → R.get? b = s1.heap.get? b := fun b hb => g1 b (by simp [hb])
  have og : ∀ b o, R.get? b = some o → s1.heap.get? b = some o ∧ ((B.get? b).isSome = true ∨ b ∈ frs X.stack) := fun b o e => by
    cases q : ((B.get? b).isSome || decide (b ∈ frs X.stack)) with
    | false => rw [g2 b q] at e; cases e
    | true => exact ⟨by rw [← g1 b q]; exact e, by simpa [Bool.or_eq_true] using q⟩
  have hh : ∀ b o, s.heap.get? b = some o → b ∉ upFrom n₀ s.heap → (headS s n₀).heap.get? b = some o := fun b o e hb => (headH_get (upFrom_not e hb)).trans e
  refine ⟨a, B, { s with heap := R, gens := G, drawn := s1.drawn, toks := s1.toks }, pins, σ, H', cls, d, rfl, ?_, fun b o e hb => ?_, Heap.UpToSlots.of_keeps fun b o e => (og b o e).1, .inr (.inl fl), na, os, hG, hW _ _ _ hE⟩
  · refine I.call (ch := upFrom n₀ s.heap) ⟨fun b o e n hb hc => gB b o (ub.keep b o (hh b o e hc) n hb), fun b o e n hb hc => ?_, fun b o e n hc => ub.free b o (hh b o e hc) n, fun b o e hc => ?_, ub.tups, ub.frzs, ub.tbls⟩ (hok.kept gB) hG L.up
    · obtain ⟨sl, q⟩ := ub.slot b o (hh b o e hc) hb
      exact ⟨sl, by rw [gF b hb]; exact q⟩
    · by_cases hb : b ∈ frs X.stack
      · obtain ⟨sl, q⟩ := ub.slot b o (hh b o e hc) hb
        exact ⟨_, by rw [gF b hb]; exact q⟩
      · obtain ⟨o', q⟩ := ub.there b o (hh b o e hc) hb
        exact ⟨o', gB b o' q⟩
  · obtain ⟨e', h⟩ := og b o e
    rcases h with h | h
    · obtain ⟨o', q⟩ := Option.isSome_iff_exists.mp h
      rw [q]
      exact (st b o' q).symm.trans e'
    · exact absurd h hb
end
section
variable {X : Cx} {k : Nat} {f : Addr} {fd : FuncData} {ps : List Str} {sp : SpG3} {x : Str} {p pos pos2 : Pos} {e : Expr} {es : List Expr} {ta : TA} {tg : Expr} {gt : TG} {body : List Stmt} {tb : TS} {W : WX}
/-- Cσ: the consumer's slots, by what is out; kp: what a turn does to the heap. K: X.K, named -/
def tForG (K : PySem.W.Frag) (sp : SpG3) (ta : TA) (gt : TG) (tb : TS) (W : WX) : TS := fun D σ H => ta σ H fun vs H1 => ∃ (Cσ : List V → St → Prop) (kp : List V → V → Hp → Hp → Prop), Cσ [] σ ∧ ∀ cs,
  sp vs H1 ⟨cs, fun ys x H2 => ∀ σ', Cσ ys σ' → gt x σ' H2 fun σ2 H3 => tb { D with nx := fun σ3 H4 => Cσ (ys ++ [x]) σ3 ∧ kp ys x H2 H4, ct := fun σ3 H4 => Cσ (ys ++ [x]) σ3 ∧ kp ys x H2 H4, bk := D.nx } σ2 H3, kp, []⟩
    (fun ys H' => ∀ σ', Cσ ys σ' → D.nx σ' H') (fun cls d H' => PySem.W.subIn K cls (.type "StopIteration") = some false ∧ ∀ ys σ', Cσ ys σ' → W cls d σ' H')
theorem ps_forG {K : PySem.W.Frag} (hK : X.K = K) (O : OwnG3 X.prog X.w X.K X.mg X.base x k ps sp) (tk : Takes X W) (hp : PassesOwn (model X.prog X.w) X.A X.env X.xe) (room : Room (k + 1) X.A) (hcm : X.calm = true) (ha : PA X (e :: es) ta) (hg : PGq X tg gt) (hb : PBq X body tb) (hgl : Gl X x := by rfl)
    (hdb : (x == ("__debug__" : Str)) = false := by decide) (he : starEach (e :: es) X.env = (false, eval e X.env) :: starEach es X.env := by rfl) (hpl : (backTo pos2 (starEach es X.env)).any (·.1) = false := by rfl)
    (hs : ∀ y, foldedSetIterable (.Call (.Name x p) (e :: es) [] pos2) X.env y = pure y := by intro _; rfl) : PS X (.For tg (.Call (.Name x p) (e :: es) [] pos2) body [] pos) (tForG K sp ta gt tb W) := by
  subst hK
  obtain ⟨f, fd, G, hm, hk, hbd⟩ := O.ex
  refine ⟨fun pins s σ H D I h => ?_⟩
  refine wpAny_For (wpAny_Call_Name_kw (ld_glob I hgl hm (PySem.W.callWith_K (h₀ := X.base) I.ok.mod.kin hk (thn (ha.run pos2 pins s σ H _ I h) fun us s1 ⟨vs, H1, I1, r, Cσ, kp, c0, q⟩ => ⟨I1.kIn, ?_⟩) he hpl) hdb)) hs
  have q := q fun ys H' s' => ∃ σ', Inv X pins σ' H' s' ∧ Cσ ys σ'
  revert q
  generalize hDl : (⟨fun ys H' s' => ∃ σ', Inv X pins σ' H' s' ∧ Cσ ys σ', _, kp, []⟩ : Deal) = Dl
  intro q
  have hl2 : us.length = ps.length := by rw [← r.length]; exact G.len _ _ _ _ _ q
  have hbs := hbd s1 us I1.kIn (by rw [List.append_nil]; exact hl2)
  rw [List.append_nil] at hbs
  refine wpAny_call (codeAny_mono (G.run X.A X.stack s1 H1 ⟨us, []⟩ us vs (fun Dl' Q' => Dl' = Dl ∧ Q' = fun ys H' => ∀ σ', Cσ ys σ' → D.nx σ' H') _ ⟨_, _, rfl, rfl⟩ (room.mono (Nat.le_succ k)) I1.env0 hbs r (fun Dl' Q' z => by obtain ⟨rfl, rfl⟩ := z; exact q)) fun r s2 hq => ?_)
  cases r with
  | error _ => exact hq.elim
  | ok fl =>
  cases fl with
  | next => exact hq.elim
  | brk => exact hq.elim
  | cont => exact hq.elim
  | ret u =>
  obtain ⟨a, g, c, go, rfl, ha1, ha2, hgo, isg, hgs, hos, hba, hkp, wake⟩ := hq
  have I2 : Inv X pins σ H1 s2 := I1.call' (ch := []) hos (Un.kept hkp) (I1.hok.kept hkp) hba fun _ z => nomatch z
  refine wpAny_pyIter_gen (isg _ hgo) ?_
  have L : LowX X pins s1.heap.objs.size := I1.low
  have hfrF : ∀ b ∈ frs X.stack, b < s1.heap.objs.size := fun b hb => by
    obtain ⟨_, o, ho, _⟩ := I1.stack.mem hb
    exact Heap.lt_size ho
  have hgl2 : g < s2.gens.size := (Array.getElem?_eq_some_iff.mp hgs).1
  have mkWk : ∀ {pins' σ' H' s'}, Inv X pins' σ' H' s' → s1.heap.objs.size ≤ s'.heap.objs.size → Wk X.prog X.w X.base X.stack s1.heap.objs.size [] H' s' := fun I' hz =>
    ⟨I'.bare, I'.bs, I'.stack, fun b hb => ⟨hfrF b hb, I'.stkFree b hb⟩, I'.hok, hz, fun _ z => nomatch z⟩
  refine codeAny_forLoop_any (fun n s' => ∃ gs σ' H', s'.gens[g]? = some gs ∧ gs.Goes (model X.prog X.w) X.A.in1 (End3 X.prog X.w X.stack s1.heap.objs.size Dl (fun ys H' => ∀ σ', Cσ ys σ' → D.nx σ' H') (fun cls d H' => PySem.W.subIn X.K cls (.type "StopIteration") = some false ∧ ∀ ys σ', Cσ ys σ' → W cls d σ' H') a g)
    (GY3 X.prog X.w X.base X.stack [(a, go)] s1.heap.objs.size Dl) n (.send .none) (s'.setGen g .running) ∧ s'.heap.get? a = some go ∧ Inv X pins σ' H' s') ?_ sizeLine ⟨_, σ, H1, hgs, ⟨rfl, ?_⟩, hgo, I2⟩
  · rintro n s3 ⟨gs, σ3, H3, hgs3, hgoes, hgo3, I3⟩
    have hgl3 : g < s3.gens.size := (Array.getElem?_eq_some_iff.mp hgs3).1
    have hcd : ∃ nm qn, go.cls = .type "generator" ∧ go.data = .fields #[.int g 0, nm, qn] := by
      obtain ⟨o, nm, qn, ho, hc, hd, _⟩ := isg _ hgo
      rw [hgo] at ho; cases ho
      exact ⟨nm, qn, hc, hd⟩
    obtain ⟨nm, qn, hgc, hgd⟩ := hcd
    refine wpAny_passesOwn hp (wpAny_gsz (n := g + 1) hgl3 (next_genG (A := X.A) (I3.ok.hd hcm) I3.nolimit room.depth (isg _ hgo3) hgs3 hgoes (fun v s4 gs' hbare hv => ?_) (fun s4 hf h' hk' => ?_) fun er s4 her => ?_))
    · obtain ⟨ys, x1, HE, H4, mine, hn, rv, hcs, hz, un, os4, ag4, hok4, hpn, hz4, _, yd, hmine, _, wakes⟩ := hv
      intro hsz
      subst hDl
      obtain ⟨σE, IE, cE⟩ := hcs
      have hsz4 : g < s4.gens.size := by
        have z : (s4.setGen g gs').gens.size = s4.gens.size := setGen_size _ _ _
        have z2 : g + 1 ≤ (s4.setGen g gs').gens.size := hsz
        omega
      have I4 : Inv X pins σE H4 (s4.setGen g gs') := (IE.stretch L un hok4 os4 ag4).gensTo (allBare_setGen ag4 hbare)
      have hgo4 : s4.heap.get? a = some go := (hpn _ (List.mem_singleton.mpr rfl)).1
      refine go_of (s := s4.setGen g gs') hgo4 hgc hgd (by decide) ?_
      refine wpAny_passesOwn hp (thn (hg.run pins _ σE H4 x1 v _ I4 rv (yd σE cE)) fun _ s5 ⟨σ5, H5, I5, S5, q5⟩ => ?_)
      refine wpAny_passesOwn hp (thn (hb.run pins s5 σ5 H5 _ I5 q5) fun fl s6 q6 => ?_)
      have on : ∀ {σ6 : St} {H6 : Hp}, Inv X pins σ6 H6 s6 → Soft X s5 H5 s6 H6 → Cσ (ys ++ [x1]) σ6 ∧ kp ys x1 H4 H6 → ∃ m, m < n ∧ ∃ gs σ' H', s6.gens[g]? = some gs ∧ gs.Goes _ X.A.in1 _ _ m (.send .none) (s6.setGen g .running) ∧ s6.heap.get? a = some go ∧ Inv X pins σ' H' s6 := fun {σ6 H6} I6 S6 n6 => by
        have S := S5.trans S6
        have hgs6 : s6.gens[g]? = some gs' := by rw [S.gens]; exact setGen_at hsz4
        have I6r : Inv X pins σ6 H6 (s6.setGen g .running) := I6.gensTo (allBare_setGen I6.bare rfl)
        have wk := wakes H6 (s6.setGen g .running) (mkWk I6r (Nat.le_trans hz4 S.size)) ⟨σ6, I6r, n6.1⟩ (fun b mb o e => S.keep b o e (hmine b mb).1 (hmine b mb).2.1) n6.2
        have hna : H4 a = none := (hpn _ (List.mem_singleton.mpr rfl)).2
        cases n with
        | zero => exact False.elim wk
        | succ m => exact ⟨m, Nat.lt_succ_self m, gs', σ6, H6, hgs6, wk, (S.keep a go hgo4 hna (fun z => absurd (hfrF a z) (Nat.not_lt.mpr ha1))).1, I6⟩
      cases fl with
      | next => obtain ⟨σ6, H6, I6, S6, n6⟩ := q6; exact on I6 S6 n6
      | cont => obtain ⟨σ6, H6, I6, S6, n6⟩ := q6; exact on I6 S6 n6
      | brk => exact q6
      | ret v => exact q6
    · obtain ⟨ys, HE, H4, hcs, hz, os4, ag4, un, hok4, _, hQ⟩ := hf
      intro _
      subst hDl
      obtain ⟨σE, IE, cE⟩ := hcs
      have I4 : Inv X pins σE H4 (s4.setGen g .finished) := (IE.stretch L un hok4 os4 ag4).gensTo (allBare_setGen ag4 rfl)
      have I5 : Inv X pins σE H4 { s4.setGen g .finished with heap := h' } := I4.call' (ch := []) rfl (Un.kept hk') (I4.hok.kept hk') I4.bare fun _ z => nomatch z
      exact wpAny_passesOwn hp (wpAny_execs_nil ⟨σE, H4, I5, hQ σE cE⟩)
    · obtain ⟨ys, HE, sE, hcs, hz, cx, hge⟩ := her
      subst hDl
      obtain ⟨σE, IE, cE⟩ := hcs
      have ag4 : AllBare s4.gens := by obtain ⟨_, _, _, _, _, _, _, _, _, _, _, ag, _⟩ := cx; exact ag
      refine ⟨hge, notStop_of (E := fun cls d H' => PySem.W.subIn X.K cls (.type "StopIteration") = some false ∧ ∀ ys σ', Cσ ys σ' → W cls d σ' H') (fun _ _ _ z => z.1) (IE.ok.mod.kin.keeps fun b o eb => ?_) cx, fun _ => tk _ _ (XE.of_stretch IE L hz (fun _ _ _ z => z.2 ys σE cE) cx (allBare_setGen ag4 rfl))⟩
      obtain ⟨a', B, H', cls, d, z1, fl, z2, ub, _⟩ := cx
      have hb0 := IE.bs b o eb
      refine fl.1 b o (ub.keep b o ((headH_get ?_).trans hb0.1) hb0.2 fun hm => ?_)
      · exact Nat.lt_of_lt_of_le (Heap.lt_size (I1.ok.bs b o eb).1) L.s0
      · have := (IE.stack.mem hm).1
        rw [eb] at this; cases this
  · subst hDl
    exact wake X.A.in1 (s2.setGen g .running) _ _ ⟨rfl, rfl⟩ room.in1 I1.ok.frames (fun _ _ e => e) hos (allBare_setGen hba rfl) (fun _ z => nomatch z) ⟨σ, I2.gensTo (allBare_setGen hba rfl), c0⟩
end
end L2

set_option Elab.async false
set_option linter.all false
set_option maxRecDepth 100000
set_option maxHeartbeats 4000000
/-! enumerate(xs, start=k) over a list -/
namespace L2
open PySem PySem.Spec PyProof.Rows
section
variable {M : Model} {A : Around} {E : Value → Shared → Prop} {s : Shared} {env : Env}
theorem callWith_typeKw {pos : Pos} {T : String} {e : Expr} {rest : List Expr} {kws : List Keyword} {Q : Value → Shared → Prop}
    (h : wpAny M A (spliced (backTo pos (starEach (e :: rest) env))) (fun vs s1 => wpAny M A (evalAll ((backToKw pos (keywordEach kws env)).map (·.2))) (fun ks s2 => wpAny M A (call (.type T) vs (((backToKw pos (keywordEach kws env)).filterMap (·.1)).zip ks)) Q E s2) E s1) E s)
    (he : backTo pos (starEach (e :: rest) env) = (false, eval e env) :: backTo pos (starEach rest env)) (hpl : (backTo pos (starEach (e :: rest) env)).any (·.1) = false)
    (hall : (backToKw pos (keywordEach kws env)).all (·.1.isSome) = true) (hno : (backToKw pos (keywordEach kws env)).any (·.1.isNone) = false) :
    wpAny M A (callWith pos (.type T) [] (backTo pos (starEach (e :: rest) env)) (backToKw pos (keywordEach kws env))) Q E s := by
  have h2 : wpAny M A (evalArgs (.type T) true (backTo pos (starEach (e :: rest) env)) (backToKw pos (keywordEach kws env))) (fun a s1 => wpAny M A (call (.type T) ([] ++ a.pos) a.kw) Q E s1) E s := by
    rw [he] at h ⊢
    exact PyProof.Rows.evalArgs_kwB hall h
  unfold callWith
  refine wpAny_bind (wpAny_holding (wpAny_mono h2 (fun a s1 h1 => wpAny_bind (wpAny_standAt ?_)) fun _ _ x => x))
  simp only [hpl, hno, Bool.or_false]
  refine wpAny_bind (wpAny_pure ?_)
  exact wpAny_bind (wpAny_mono h1 (fun r s2 hr => wpAny_bind (wpAny_holding (wpAny_point (wpAny_pure hr)))) fun _ _ x => x)
end
/-- the list at a, each item in a new pair with its number from k on -/
def Itef (K : PySem.W.Frag) (a : Addr) (k : Int) : It :=
  ⟨fun i H => ∃ xs : List V, SqL K H a xs ∧ i < xs.length, fun i H v H' => ∃ T x, v = .ref T ∧ H T = none ∧ H' = upd H T (.tup [.int (k + (i : Nat)), x]) ∧ ∀ xs, SqL K H a xs → xs[i]? = some x, fun i H => ∃ xs : List V, SqL K H a xs ∧ xs.length = i⟩
theorem turn_enF {P : Program} {w : World} {K : PySem.W.Frag} {elts : List Expr} {kk : Nat} {tpos : Pos} (k : Int) (a e it : Addr) (hea : e ≠ a) (hia : a ≠ it) :
    Turn P w K (.Tuple elts kk tpos) (Itef K a k) [e, it] e (fun i h => (∃ old, IsEnum h e it (k + ((i : Nat) : Int)) old) ∧ h.IsListIter it a i ∧ e ≠ it) where
  mem := List.mem_cons_self
  obj := by
    intro i h ⟨⟨old, he⟩, ⟨o, ho, _, hd⟩, _⟩ b hb
    rcases List.mem_cons.mp hb with rfl | z
    · exact ⟨_, he, by intro v q; cases q⟩
    · cases List.mem_singleton.mp z
      exact ⟨o, ho, by intro v q; rw [hd] at q; cases q⟩
  keep := fun i h h' ⟨⟨old, he⟩, hi, hne⟩ st => ⟨⟨old, st e List.mem_cons_self _ he⟩, hi.at fun o q => st it (List.mem_cons_of_mem _ List.mem_cons_self) o q, hne⟩
  item := by
    intro X hP hw hK hc i pins s σ H E I hf ⟨⟨old, he⟩, hit, hne⟩ ⟨xs, hq, hx⟩
    subst hP hw hK
    obtain ⟨its, rv, p, hz⟩ := I.list hq
    have hl := rv.length
    have elt := Heap.lt_size he
    have ilt : it < s.heap.objs.size := let ⟨_, q, _⟩ := hit; Heap.lt_size q
    have D := Draws.list (prog := X.prog) (w := X.w) (A := X.A.in1) (I.ok.hd hc) it a hia its.toArray
    refine wpAny_pyNext_enum_itemC D he (i := i) ⟨hit, p.isList⟩ (by rw [List.size_toArray]; omega) hne (by simp [hne, hea]) fun u h' tk hP ho hst' hT hsz hk => ?_
    have hu : its[i]? = some u := by simpa using hP
    have hxx : xs[i]? = some xs[i] := List.getElem?_eq_getElem hx
    obtain ⟨u', hu', ru'⟩ := rv.get hxx
    obtain rfl : u' = u := Option.some.inj (hu'.symm.trans hu)
    refine ⟨_, rfl, wpAny_letOwnedTupleGo_enum (s := { s with heap := h', toks := tk + 1 }) ho fun h2 he2 sb => ?_⟩
    have hT2 := (sb.2 _ (Nat.ne_of_gt elt)).trans hT
    have I1 : Inv X pins σ (upd H s.heap.objs.size (.tup [.int (k + (i : Nat)), xs[i]])) { s with heap := h2, toks := tk + 1 } :=
      I.turnedNew (ch := [e, it]) (fun b ob hb q => (sb.2 b fun z => hb (by rw [z]; exact List.mem_cons_self)).trans (hk b ob (fun z => hb (by rw [z]; exact List.mem_cons_self)) (fun z => hb (by rw [z]; exact List.mem_cons_of_mem _ List.mem_cons_self)) q)) hf (Nat.le_refl _)
        ⟨by show 2 ≤ sizeLine; decide, [.int (k + (i : Nat)) tk, u'], .cons ⟨_, rfl⟩ (.cons ru' .nil), ⟨_, hT2, rfl, _, rfl⟩⟩
    refine ⟨.ref s.heap.objs.size, _, I1, rfl, ⟨_, xs[i], rfl, I.hok.fresh (Nat.le_refl _), rfl, fun ys hy => by rw [I.list_inj hy hq]; exact hxx⟩, ⟨⟨u', ?_⟩, hst'.1.at fun o q => (sb.2 it (Ne.symm hne)).trans q, hne⟩, fun b hb => ?_⟩
    · rw [show k + ((i + 1 : Nat) : Int) = k + (i : Int) + 1 by omega]; exact he2
    · have hb' : b < s.heap.objs.size := (List.mem_cons.mp hb).elim (fun z => z ▸ elt) fun z => List.mem_singleton.mp z ▸ ilt
      rw [upd_ne (Nat.ne_of_lt hb')]; exact (hf b hb).1
  done := by
    intro X hP hw hK hc i pins s σ H E I hf ⟨⟨old, he⟩, hit, hne⟩ ⟨xs, hq, hx⟩
    subst hP hw hK
    obtain ⟨its, rv, p, hz⟩ := I.list hq
    have hl := rv.length
    obtain ⟨f0, f1, f2, f3, f4, f5⟩ := hf it (List.mem_cons_of_mem _ List.mem_cons_self)
    have D := Draws.list (prog := X.prog) (w := X.w) (A := X.A.in1) (I.ok.hd hc) it a hia its.toArray
    have ei : i = its.toArray.size := by rw [List.size_toArray]; omega
    exact wpAny_pyNext_enum_endD D he (by rw [← ei]; exact ⟨hit, p.isList⟩) fun h' eb => ⟨rfl, I.turned (t' := s.toks) (fun b o hb q => eb b o hb q) f0 f1 f3 f4 f5⟩
  self := fun A i s Q E ⟨⟨_, he⟩, _⟩ h => wpAny_pyIter_enum he h
def iEnF (K : PySem.W.Frag) (k : Int) (ta : TA) : TI := fun σ H R => ta σ H fun vs H1 => ∃ a xs, vs = [.ref a] ∧ SqL K H1 a xs ∧ R (Itef K a k) H1
theorem pi_enF {X : Cx} {K : PySem.W.Frag} (hK : X.K = K) {e : Expr} {ta : TA} {p pos tpos p2 p3 : Pos} {elts : List Expr} {kk j : Nat} {k : Int} (h0 : -(2 ^ 63) ≤ k) (h1 : k < 2 ^ 63) (hg : Gl X "enumerate") (hm : X.mg "enumerate" = none) (ha : PA X [e] ta)
    (he : backTo pos (starEach [e] X.env) = (false, eval e X.env) :: backTo pos (starEach [] X.env) := by rfl) (hpl : (backTo pos (starEach [e] X.env)).any (·.1) = false := by rfl) (hall : (backToKw pos (keywordEach [⟨some "start", .Constant (.int k) j p2, p3⟩] X.env)).all (·.1.isSome) = true := by rfl)
    (hno : (backToKw pos (keywordEach [⟨some "start", .Constant (.int k) j p2, p3⟩] X.env)).any (·.1.isNone) = false := by rfl) (hks : (backToKw pos (keywordEach [⟨some "start", .Constant (.int k) j p2, p3⟩] X.env)).filterMap (·.1) = [Str.ofString "start"] := by rfl) :
    PI X (.Tuple elts kk tpos) (.Call (.Name "enumerate" p) [e] [⟨some "start", .Constant (.int k) j p2, p3⟩] pos) (iEnF K k ta) := by
  subst hK
  refine ⟨fun pins s σ H R I h => wpAny_Call_Name_kw (ld_blt I hg hm boot_enumerate (callWith_typeKw (thn (ha.run pos pins s σ H _ I h) fun us s1 ⟨vs, H1, I1, r1, a, xs, ex, hq, q⟩ => ?_) he hpl hall hno))⟩
  subst ex
  obtain rfl := Vals.ref1 r1
  refine PyProof.Rows.kws_cons (thn ((pe_int (X := X) (i := k) (j := j) (pos := p2)).run pins s1 σ H1 (fun v H' => v = .int k ∧ H' = H1) I1 ⟨rfl, rfl⟩) fun v s2 ⟨x, H2, I2, rv, e1, e2⟩ => PyProof.Rows.kws_nil ?_)
  subst e1 e2
  obtain ⟨t, rfl⟩ := rv
  obtain ⟨its, rvs, p', hz⟩ := I2.list hq
  have hlt : a < s2.heap.objs.size := let ⟨_, q, _⟩ := p'.isList; Heap.lt_size q
  rw [hks]
  refine enum_begins_start (begins_list a its.toArray) p'.isList h0 h1 fun h' he hit hsz hk => wpAny_pyIter_enum he ?_
  have I3 : Inv X pins σ H2 { s2 with heap := h' } := I2.kept (t' := s2.toks) hk
  have two : ∀ b, b ∈ [s2.heap.objs.size + 1, s2.heap.objs.size] → s2.heap.objs.size ≤ b := fun b hb => (List.mem_cons.mp hb).elim (fun z => by rw [z]; exact Nat.le_succ _) fun z => by rw [List.mem_singleton.mp z]; exact Nat.le_refl _
  exact ⟨s2.heap.objs.size + 1, [s2.heap.objs.size + 1, s2.heap.objs.size], _, _, H2, rfl, I3, turn_enF k a (s2.heap.objs.size + 1) s2.heap.objs.size (Nat.ne_of_gt (Nat.lt_succ_of_lt hlt)) (Nat.ne_of_lt hlt), ⟨⟨.none, by rw [show k + ((0 : Nat) : Int) = k by omega]; exact he⟩, ⟨_, hit, rfl, rfl⟩, Nat.succ_ne_self _⟩, fun b hb => I2.fpOk (two b hb) (I2.hok.fresh (two b hb)), q⟩
theorem walk_enF {K : PySem.W.Frag} {a : Addr} {k : Int} {xs : List V} : Walk (Itef K a k) xs.length (fun H => SqL K H a xs) (YPair (fun i => some (.int (k + (i : Nat)))) (fun i => xs[i]?)) := by
  refine ⟨fun i _ hi q => ⟨xs, q, hi⟩, fun _ q => ⟨xs, q, rfl⟩, fun i H v H' _ q ⟨T, x, e1, e2, e3, e4⟩ => ⟨T, .int (k + (i : Nat)), x, e1, e2, e3, rfl, e4 xs q⟩⟩
end L2

set_option Elab.async false
set_option linter.all false
set_option maxRecDepth 100000
set_option maxHeartbeats 4000000
/-! one reading for both kinds of promise: list(f(..)) wants a deal that keeps the heap as it is -/
namespace L2
open PySem PySem.Spec PyProof.Rows GenW
/-- a deal with a consumer that leaves the heap as it is -/
def Deal.Still (Dl : Deal) : Prop := ∀ ys x H, Dl.yd ys x H → Dl.kp ys x H H
section
variable {X : Cx} {Dl : Deal} {e : Expr} {yp pos : Pos} {te : TE}
theorem gs_yield3 (hD : Dl.Still) (he : PE X e te) (hco : X.env.scope.isCoroutine = false := by rfl) (hi : interactive X.env = false := by rfl) : GS X (.Expr (.Yield (some e) yp) pos) (tYield3 Dl te) := by
  have hw : PE X e (fun σ H Q => ∃ Q0, te σ H Q0 ∧ ∀ x H1, Q0 x H1 → Q x H1) := ⟨fun pins s σ H Q I ⟨Q0, h0, hq⟩ => thn (he.run pins s σ H Q0 I h0) fun u s' ⟨x, H', I', r, q⟩ => ⟨x, H', I', r, hq x H' q⟩⟩
  refine ⟨fun A S ip R n ys s₀ c fs K J gd lv s σ H D g hn k hI ht => (gs_yield hw hco hi).run A S ip R n ys s₀ c fs K J gd lv s σ H D g hn k hI ⟨ht.1, _, ht.2, fun x H1 q => q.2 H1 (hD ys x H1 q.1)⟩⟩
end
end L2

set_option Elab.async false
set_option linter.all false
set_option maxRecDepth 100000
set_option maxHeartbeats 4000000
/-! rules with K named, for what stands within a generator whose contexts change -/
namespace L2
open PySem PySem.Spec PyProof.Rows GenW
section
variable {X : Cx} {K : PySem.W.Frag} {o e : Expr} {es : List Expr} {to te : TE} {t : TA} {name : Str} {apos cpos pos p : Pos} {T id : String} {r : V → List V → Hp → VK → Prop}
theorem pe_bm0N (hK : X.K = K) (pa : PlainAttrs T) (slot : Slot T name id) (hty : typeOf (.builtin id) = pure (.type "method_descriptor")) (hm : MtR X id r) (ho : PE X o to) (hbase : attributeBase o name X.env (eval o X.env) = eval o X.env := by rfl)
    (hline : (apos.endLine == cpos.line) = true := by rfl) : PE X (.Call (.Attribute o name apos) [] [] cpos) (tBM0 K T r to) := by subst hK; exact pe_bm0 pa slot hty hm ho hbase hline
theorem pe_bmN (hK : X.K = K) (pa : PlainAttrs T) (slot : Slot T name id) (hty : typeOf (.builtin id) = pure (.type "method_descriptor")) (hm : MtR X id r) (ho : PE X o to) (ha : PA X (e :: es) t) (hbase : attributeBase o name X.env (eval o X.env) = eval o X.env := by rfl)
    (hfew : ((backTo cpos (starEach (e :: es) X.env)).all (fun x => !x.1) && (backToKw cpos (keywordEach [] X.env)).all (fun x => x.1.isSome) && decide ((e :: es).length + ([] : List Keyword).length + (if ([] : List Keyword).isEmpty then 0 else 1) < 30)) = true := by rfl)
    (hline : (apos.endLine == cpos.line) = true := by rfl) (hs : starEach (e :: es) X.env = (false, eval e X.env) :: starEach es X.env := by rfl) (hplain : (backTo cpos (starEach es X.env)).any (·.1) = false := by rfl) :
    PE X (.Call (.Attribute o name apos) (e :: es) [] cpos) (tBM K T r to t) := by subst hK; exact pe_bm pa slot hty hm ho ha hbase hfew hline hs hplain
theorem pg_tupN (hK : X.K = K) {es : List Expr} {k : Nat} {t : TGs} {n : Nat} (hc : X.calm = true) (h : PGs X es t) (hn : (assignEach es X.env).length = n := by rfl) (hst : (assignEach es X.env).findIdx? (·.1) = none := by rfl) :
    PG X (.Tuple es k pos) (gTup K n t) := by subst hK; exact pg_tup hc h hn hst
theorem pa_starN (hK : X.K = K) (he : PE X e te) (hr : PA X es t) (hs : starEach (.Starred e p :: es) X.env = (true, eval e X.env) :: starEach es X.env := by rfl) : PA X (.Starred e p :: es) (StX.tStar K te t) := by subst hK; exact StX.pa_star he hr hs
theorem pi_enSqN (hK : X.K = K) {ta : TA} {tpos : Pos} {elts : List Expr} {kk : Nat} (hg : Gl X "enumerate") (hm : X.mg "enumerate" = none) (ha : PA X [e] ta) (hs : starEach [e] X.env = [(false, eval e X.env)] := by rfl) :
    PI X (.Tuple elts kk tpos) (.Call (.Name "enumerate" p) [e] [] pos) (iEnSq K ta) := by subst hK; exact pi_enSq hg hm ha hs
end
end L2

set_option Elab.async false
set_option linter.all false
set_option maxRecDepth 100000
set_option maxHeartbeats 4000000
/-! a generator's for over anything that walks -/
namespace L2
open PySem PySem.Spec PyProof.Rows GenW
theorem gfor_it {J : It} {n : Nat} {G : Hp → Prop} {Y : Nat → Hp → V → Hp → Prop} (w : Walk J n G Y) {g : TG} {tb : TGn} {D : GEnds} {ys : List V} {σ : St} {H : Hp} (Pv : Nat → List V → St → Hp → Prop) (h0 : Pv 0 ys σ H) (hG : ∀ i ys σ H, i ≤ n → Pv i ys σ H → G H)
    (hs : ∀ i x ys σ H H', i < n → Pv i ys σ H → Y i H x H' → g x σ H' fun σ2 H2 => tb { D with nx := Pv (i + 1), ct := Pv (i + 1), bk := D.nx } ys σ2 H2) (hd : ∀ ys σ H, Pv n ys σ H → D.nx ys σ H) :
    ∃ W : Nat → Nat → List V → St → Hp → Prop, (∃ m, W 0 m ys σ H) ∧ ∀ i m ys σ H, W i m ys σ H →
      (J.stop i H ∧ D.nx ys σ H) ∨ (J.go i H ∧ ∃ N : List V → St → Hp → Prop, (∀ ys' σ' H', N ys' σ' H' → ∃ m', m' < m ∧ W (i + 1) m' ys' σ' H') ∧ ∀ x H', J.yld i H x H' → g x σ H' fun σ2 H2 => tb { D with nx := N, ct := N, bk := D.nx } ys σ2 H2) := by
  refine ⟨fun i m ys σ H => m = n - i ∧ i ≤ n ∧ Pv i ys σ H, ⟨n - 0, rfl, Nat.zero_le _, h0⟩, ?_⟩
  rintro i m ys σ H ⟨rfl, hi, pv⟩
  by_cases hlt : i < n
  · exact .inr ⟨w.goes i H hlt (hG i ys σ H hi pv), Pv (i + 1), fun ys' σ' H' q => ⟨n - (i + 1), by omega, rfl, hlt, q⟩, fun x H' hy => hs i x ys σ H H' hlt pv (w.yields i H x H' hlt (hG i ys σ H hi pv) hy)⟩
  · obtain rfl : i = n := by omega
    exact .inl ⟨w.stops H (hG i ys σ H hi pv), hd ys σ H pv⟩
end L2

set_option Elab.async false
set_option linter.all false
set_option maxRecDepth 100000
set_option maxHeartbeats 4000000
/-! [x for x in f(..)]: a comprehension over a generator def's call -/
namespace L2
open PySem PySem.Spec PyProof.Rows GenW
section
variable {P : Program} {w : World}
/-- a list of ours is tracked -/
theorem hok_track {H' : Hp} {h : Heap} {S : Addr} {its : List Value} {c : Nat} {out : List V} (hok : HOk P w H' h) (hn : H' S = none) (hlen : out.length ≤ sizeLine) (e : h.get? S = some { cls := .type "list", data := .seq its.toArray c }) (r : Vals out its) : HOk P w (upd H' S (.lst out)) h := fun b u q => by
  by_cases hb : b = S
  · subst hb
    rw [upd_same] at q
    cases q
    exact ⟨hlen, its, c, r, e⟩
  · rw [upd_ne hb] at q
    exact (hok b u q).stay (fun _ _ _ z => z) (fun d z => by rw [upd_ne (ne_of_none z hn)]; exact z) fun d xs z => by rw [upd_ne (ne_of_none z hn)]; exact z
end
section
variable {X : Cx} {pins : List (Addr × Obj)} {σ : St} {H : Hp} {s : Shared} {n₀ : Nat}
theorem LowX.apart (L : LowX X pins n₀) {b : Addr} (hn : n₀ ≤ b) : (b ∈ X.ex ∨ X.s_0.heap.objs.size ≤ b) ∧ b ≠ X.env.locals ∧ (∀ x c, X.env.cells.lookup x = some c → c ≠ b) ∧ ∀ p ∈ X.pn ++ pins, p.1 ≠ b := by
  refine ⟨.inr (Nat.le_trans L.s0 hn), fun z => ?_, fun x c e z => ?_, fun p hp z => ?_⟩
  · rw [z] at hn; exact absurd (Nat.lt_of_lt_of_le L.loc hn) (Nat.lt_irrefl _)
  · rw [← z] at hn; exact absurd (Nat.lt_of_lt_of_le (L.cell x c e) hn) (Nat.lt_irrefl _)
  · rw [← z] at hn; exact absurd (Nat.lt_of_lt_of_le (L.pin p hp) hn) (Nat.lt_irrefl _)
theorem Inv.track {S : Addr} {its : List Value} {c : Nat} {out : List V} (I : Inv X pins σ H s) (L : LowX X pins n₀) (hS : n₀ ≤ S) (hn : H S = none) (hlen : out.length ≤ sizeLine) (e : s.heap.get? S = some { cls := .type "list", data := .seq its.toArray c }) (r : Vals out its) : Inv X pins σ (upd H S (.lst out)) s := by
  refine I.call' (ch := [S]) rfl ⟨fun b o q _ _ _ => q, fun b o q _ _ _ => ⟨o.slots, q⟩, fun b o q z hc => ?_, fun b o q _ => ⟨o, q⟩, fun b xs q => ?_, fun b o u q => ?_, fun b ps q => ?_⟩ (hok_track I.hok hn hlen e r) I.bare fun b hb => ?_
  · rw [upd_ne fun y => hc (by rw [y]; exact List.mem_singleton.mpr rfl)]; exact z
  · rw [upd_ne (ne_of_none q hn)]; exact q
  · rw [upd_ne (ne_of_none q hn)]; exact q
  · exact ⟨#[], by rw [upd_ne (ne_of_none q hn), q]; simp⟩
  · rw [List.mem_singleton.mp hb]; exact L.apart hS
/-- only untracked places from n₀ on have changed -/
theorem Inv.far {s' : Shared} {ch : List Addr} (I : Inv X pins σ H s) (L : LowX X pins n₀) (os : s'.os = s.os) (hb : AllBare s'.gens) (hch : ∀ b ∈ ch, n₀ ≤ b ∧ H b = none) (k : ∀ b o, b ∉ ch → s.heap.get? b = some o → s'.heap.get? b = some o) : Inv X pins σ H s' := by
  refine I.call' (ch := ch) os ⟨fun b o q _ _ hc => k b o hc q, fun b o q _ _ hc => ⟨o.slots, k b o hc q⟩, fun b o q z hc => z, fun b o q hc => ⟨o, k b o hc q⟩, fun b xs q => q, fun b o u q => q, fun b ps q => ⟨#[], by rw [q]; simp⟩⟩ (fun b u q => ?_) hb fun b hb => L.apart (hch b hb).1
  refine (I.hok b u q).stay (fun c v hc z => k c v (fun y => ?_) z) (fun _ z => z) fun _ _ z => z
  have hz := (hch c y).2
  rcases hc with hc | hc
  · rw [hc, q] at hz; cases hz
  · rw [hz] at hc; cases hc
end
/-- the items stand in the new list, the heap is the generator's own -/
def tLcG (sp : SpG3) (ta : TA) : TE := fun σ H Q => ta σ H fun vs H1 => ∀ cs ad, sp vs H1 ⟨cs, fun _ _ _ => True, fun _ _ H2 H3 => H3 = H2, ad⟩ (fun ys H' => ∀ D, H1 D = none → H' D = none → Q (.ref D) (upd H' D (.lst ys))) (fun _ _ _ => False)
section
variable {X : Cx} {k : Nat} {ps : List Str} {sp : SpG3} {x y : Str} {p p1 p2 pos pos2 pos' : Pos} {e : Expr} {es : List Expr} {ta : TA} {scope : Scope} {use : Option (Value → Sem Unit)} {Qf : Value → Shared → Prop} {pins : List (Addr × Obj)} {s : Shared} {σ : St} {H : Hp} {Q : VK}
theorem lcG_core (hc : X.calm = true) (I : Inv X pins σ H s) (O : OwnG3 X.prog X.w X.K X.mg X.base x k ps sp) (room : Room (k + 1) X.A) (ha : PA X (e :: es) ta) (hkind : scope.kind = .function) (hfr : ∀ y ∈ scope.names, y.2 = .free → X.env.scope.names.lookup y.1 = some .cell ∨ X.env.scope.names.lookup y.1 = some .free)
    (hnm : ∀ x ∈ scope.names, x.2 = .local → scope.names.lookup x.1 = some .local) (hy : scope.names.lookup y = some .local) (hgl : Gl X x) (hdb : (x == ("__debug__" : Str)) = false) (hdy : (y == ("__debug__" : Str)) = false)
    (he : starEach (e :: es) X.env = (false, eval e X.env) :: starEach es X.env) (hpl : (backTo pos2 (starEach es X.env)).any (·.1) = false) (hs : ∀ z, foldedSetIterable (.Call (.Name x p) (e :: es) [] pos2) X.env z = pure z)
    (h : tLcG sp ta σ H Q)
    (hRR : ∀ D C s' m H', Inv X pins σ H' s' → Q (.ref D) H' → s'.heap.Ns C m → FpOk X pins H' C → compPost (model X.prog X.w) X.A X.xe use Qf (.ref D) C (.ok .next) s') :
    wpAny (model X.prog X.w) X.A (comprehension (.ListComp (.Name y p1) [⟨.Name y p2, .Call (.Name x p) (e :: es) [] pos2, [], 0⟩] scope pos) scope X.env pos' (newList []) false (eval (.Call (.Name x p) (e :: es) [] pos2) X.env) use) Qf X.xe s := by
  have hfree : ∀ y ∈ scope.names, y.2 = .free → ∃ c, X.env.cells.lookup y.1 = some c := fun y hy e => I.ok.has _ (hfr y hy e)
  obtain ⟨f, fd, G, hm, hk, hbd⟩ := O.ex
  refine wpAny_comprehension_free (use := use) rfl hs (closure_ok hfree) hkind hnm
    (wpAny_Call_Name_kw (ld_glob I hgl hm (PySem.W.callWith_K (h₀ := X.base) I.ok.mod.kin hk (thn (ha.run pos2 pins s σ H _ I h) fun us s1 ⟨vs, H1, I1, r, q⟩ => ⟨I1.kIn, ?_⟩) he hpl) hdb))
  have hl2 : us.length = ps.length := by rw [← r.length]; exact G.len _ _ _ _ _ (q (fun _ _ _ => True) [])
  have hbs := hbd s1 us I1.kIn (by rw [List.append_nil]; exact hl2)
  rw [List.append_nil] at hbs
  obtain ⟨QQ, hQQ⟩ : ∃ QQ : List V → Hp → Prop, QQ = fun (ys : List V) (H' : Hp) => ∀ D, H1 D = none → H' D = none → Q (.ref D) (upd H' D (.lst ys)) := ⟨_, rfl⟩
  have q2 : ∀ cs ad, sp vs H1 ⟨cs, fun _ _ _ => True, fun _ _ H2 H3 => H3 = H2, ad⟩ QQ (fun _ _ _ => False) := by rw [hQQ]; exact q
  refine wpAny_call (codeAny_mono (G.run X.A X.stack s1 H1 ⟨us, []⟩ us vs (fun Dl' Q' => ∃ cs ad, Dl' = ⟨cs, fun _ _ _ => True, fun _ _ H2 H3 => H3 = H2, ad⟩ ∧ Q' = QQ) (fun _ _ _ => False) ⟨_, _, fun _ _ _ => True, [], rfl, rfl⟩ (room.mono (Nat.le_succ k)) I1.env0 hbs r (fun Dl' Q' z => by obtain ⟨cs, ad, z1, z2⟩ := z; rw [z1, z2]; exact q2 cs ad)) fun r s2 hq => ?_)
  cases r with
  | error _ => exact hq.elim
  | ok fl =>
  cases fl with
  | next => exact hq.elim
  | brk => exact hq.elim
  | cont => exact hq.elim
  | ret u =>
  obtain ⟨a, g, c, go, rfl, ha1, ha2, hgo, isg, hgs, hos, hba, hkp, wake⟩ := hq
  have I2 : Inv X pins σ H1 s2 := I1.call' (ch := []) hos (Un.kept hkp) (I1.hok.kept hkp) hba fun _ z => nomatch z
  refine wpAny_pyIter_gen (isg _ hgo) ?_
  have L : LowX X pins s1.heap.objs.size := I1.low
  have hfrF : ∀ b ∈ frs X.stack, b < s1.heap.objs.size := fun b hb => by
    obtain ⟨_, o, ho, _⟩ := I1.stack.mem hb
    exact Heap.lt_size ho
  have hgl2 : g < s2.gens.size := (Array.getElem?_eq_some_iff.mp hgs).1
  refine wpAny_newObj_type (newEnv_comp ?_) (by show 0 ≤ sizeLine; decide)
  obtain ⟨D, hD⟩ : ∃ D, s2.heap.objs.size = D := ⟨_, rfl⟩
  obtain ⟨C, hC⟩ : ∃ C, s2.heap.objs.size + 1 = C := ⟨_, rfl⟩
  have hDC : D ≠ C := by rw [← hD, ← hC]; exact Nat.ne_of_lt (Nat.lt_succ_self _)
  have nDlt : s1.heap.objs.size < D := by rw [← hD]; exact Nat.lt_of_le_of_lt ha1 ha2
  have nD : s1.heap.objs.size ≤ D := Nat.le_of_lt nDlt
  have nClt : s1.heap.objs.size < C := by rw [← hC]; exact Nat.lt_succ_of_lt (Nat.lt_of_le_of_lt ha1 ha2)
  have nC : s1.heap.objs.size ≤ C := Nat.le_of_lt nClt
  have hCs : (s2.heap.push { cls := .type "list", data := .seq ([] : List Value).toArray }).objs.size = C := by rw [Heap.size_push]; exact hC
  generalize hce : compEnvC scope (cellsFrom ((s2.heap.push { cls := .type "list", data := .seq ([] : List Value).toArray }).objs.size + 1) scope.names (cloFrom X.env.cells scope.names [])) (s2.heap.push { cls := .type "list", data := .seq ([] : List Value).toArray }).objs.size X.env = ce
  rw [hCs] at hce
  have cL : ce.locals = C := by subst hce; rfl
  have cK : ce.scope.kind = .function := by subst hce; exact hkind
  have cY : ce.kindOf y = some .local := by subst hce; exact lookup_relabel_local hy
  have cP : (ce.scope.kind == .class || (ce.scope.kind == .module && ce.locals != ce.globals)) = false := by rw [cK]; rfl
  show codeAny (model X.prog X.w) X.A (.compStart (.ListComp (.Name y p1) [⟨.Name y p2, .Call (.Name x p) (e :: es) [] pos2, [], 0⟩] scope pos) 0 (.ref a) (.ref s2.heap.objs.size) (compEnvC scope (cellsFrom ((s2.heap.push { cls := .type "list", data := .seq ([] : List Value).toArray }).objs.size + 1) scope.names (cloFrom X.env.cells scope.names [])) (s2.heap.push { cls := .type "list", data := .seq ([] : List Value).toArray }).objs.size X.env))
    (compPost (model X.prog X.w) X.A X.xe use Qf (.ref s2.heap.objs.size) (s2.heap.push { cls := .type "list", data := .seq ([] : List Value).toArray }).objs.size) { s2 with heap := pushCells ((s2.heap.push { cls := .type "list", data := .seq ([] : List Value).toArray }).push { cls := .type "dict", data := .dict #[] }) scope.names }
  rw [hCs, hD, hce]
  have nsC4 : (pushCells ((s2.heap.push { cls := .type "list", data := .seq ([] : List Value).toArray }).push { cls := .type "dict", data := .dict #[] }) scope.names).Ns C fun _ => none := by
    rw [← hCs]
    exact Heap.Ns.keeps (Heap.Ns.new ..) fun b o e => pushCells_keeps _ _ _ _ e
  have lD4 : (pushCells ((s2.heap.push { cls := .type "list", data := .seq ([] : List Value).toArray }).push { cls := .type "dict", data := .dict #[] }) scope.names).get? D = some { cls := .type "list", data := .seq ([] : List Value).toArray 0 } := by
    refine pushCells_keeps _ _ _ _ (Heap.get?_push_of_some _ ?_)
    rw [← hD]
    exact Heap.get?_push_size _ rfl
  have kp4 : ∀ b o, s2.heap.get? b = some o → (pushCells ((s2.heap.push { cls := .type "list", data := .seq ([] : List Value).toArray }).push { cls := .type "dict", data := .dict #[] }) scope.names).get? b = some o := fun b o e => pushCells_keeps _ _ _ _ (Heap.get?_push_of_some _ (Heap.get?_push_of_some _ e))
  obtain ⟨s4, hs4⟩ : ∃ s4 : Shared, s4 = { s2 with heap := pushCells ((s2.heap.push { cls := .type "list", data := .seq ([] : List Value).toArray }).push { cls := .type "dict", data := .dict #[] }) scope.names } := ⟨_, rfl⟩
  rw [← hs4]
  have nsC : s4.heap.Ns C fun _ => none := by rw [hs4]; exact nsC4
  have lD : s4.heap.get? D = some { cls := .type "list", data := .seq ([] : List Value).toArray 0 } := by rw [hs4]; exact lD4
  have kp : ∀ b o, s2.heap.get? b = some o → s4.heap.get? b = some o := by rw [hs4]; exact kp4
  have os4 : s4.os = s2.os := by rw [hs4]
  have gn4 : s4.gens = s2.gens := by rw [hs4]
  clear hs4 kp4 lD4 nsC4
  have hba4 : AllBare s4.gens := by rw [gn4]; exact hba
  have I4 : Inv X pins σ H1 s4 := I2.call' (ch := []) os4 (Un.kept kp) (I2.hok.kept kp) hba4 fun _ z => nomatch z
  have hCD : ∀ {b : Addr}, b ∈ [C, D] → b = C ∨ b = D := fun hb => by simpa using hb
  -- the deal
  generalize hDl : (⟨fun ys HE sE => Inv X pins σ HE sE ∧ (∃ m, sE.heap.Ns C m) ∧ ∃ its n, sE.heap.get? D = some { cls := .type "list", data := .seq (its : List Value).toArray n } ∧ Vals ys its ∧ ys.length ≤ sizeLine, fun _ _ _ => True, fun _ _ H2 H3 => H3 = H2, [C, D]⟩ : Deal) = Dl
  have hA : ∃ cs ad, Dl = ⟨cs, fun _ _ _ => True, fun _ _ H2 H3 => H3 = H2, ad⟩ ∧ QQ = QQ := ⟨_, _, hDl.symm, rfl⟩
  have adAt : ∀ {HE : Hp} {sE : Shared} {m : Str → Option Value} {its : List Value} {n : Nat}, sE.heap.Ns C m → sE.heap.get? D = some { cls := .type "list", data := .seq its.toArray n } → ∀ b ∈ Dl.ad, ∃ o, sE.heap.get? b = some o ∧ ∀ v, o.data ≠ .cell v := fun {HE sE m its n} hn hl b hb => by
    subst hDl
    rcases hCD hb with rfl | rfl
    · obtain ⟨o, es', ep, ho, hd, _⟩ := hn
      exact ⟨o, ho, fun v z => by rw [hd] at z; cases z⟩
    · exact ⟨_, hl, fun v z => by cases z⟩
  have mkWk : ∀ {H' s' m its n}, Inv X pins σ H' s' → s1.heap.objs.size ≤ s'.heap.objs.size → H' C = none → H' D = none → s'.heap.Ns C m → s'.heap.get? D = some { cls := .type "list", data := .seq (its : List Value).toArray n } → Wk X.prog X.w X.base X.stack s1.heap.objs.size Dl.ad H' s' := fun {H' s' m its n} I' hz hc' hd' hn hl =>
    ⟨I'.bare, I'.bs, I'.stack, fun b hb => ⟨hfrF b hb, I'.stkFree b hb⟩, I'.hok, hz, fun b hb => by
      have q := adAt (HE := H') hn hl b hb
      subst hDl
      rcases hCD hb with rfl | rfl
      · exact ⟨nClt, hc', fun z => absurd (hfrF _ z) (Nat.not_lt.mpr nC), q⟩
      · exact ⟨nDlt, hd', fun z => absurd (hfrF _ z) (Nat.not_lt.mpr nD), q⟩⟩
  have go4 : s4.heap.get? a = some go := kp _ _ hgo
  have loop : codeAny (model X.prog X.w) X.A (.compLoop (.ListComp (.Name y p1) [⟨.Name y p2, .Call (.Name x p) (e :: es) [] pos2, [], 0⟩] scope pos) 0 (.ref a) (.ref D) ce) (compPost (model X.prog X.w) X.A X.xe use Qf (.ref D) C) s4 := by
    obtain ⟨Pd, hPd⟩ : ∃ Pd : Nat → Shared → Prop, Pd = fun n s' => ∃ gs H', s'.gens[g]? = some gs ∧ gs.Goes (model X.prog X.w) X.A.in1 (End3 X.prog X.w X.stack s1.heap.objs.size Dl QQ (fun _ _ _ => False) a g) (GY3 X.prog X.w X.base X.stack [(a, go)] s1.heap.objs.size Dl) n (.send .none) (s'.setGen g .running) ∧ s'.heap.get? a = some go ∧ Inv X pins σ H' s' := ⟨_, rfl⟩
    refine compLoop_any Pd ?_ sizeLine ?_
    · intro n s3 hh
      rw [hPd] at hh
      obtain ⟨gs, H3, hgs3, hgoes, hgo3, I3⟩ := hh
      have hgl3 : g < s3.gens.size := (Array.getElem?_eq_some_iff.mp hgs3).1
      have hcd : ∃ nm qn, go.cls = .type "generator" ∧ go.data = .fields #[.int g 0, nm, qn] := by
        obtain ⟨o, nm, qn, ho, hc, hd, _⟩ := isg _ hgo
        rw [hgo] at ho; cases ho
        exact ⟨nm, qn, hc, hd⟩
      obtain ⟨nm, qn, hgc, hgd⟩ := hcd
      refine wpAny_gsz (n := g + 1) hgl3 (next_genG (A := X.A) (I3.ok.hd hc) I3.nolimit room.depth (isg _ hgo3) hgs3 hgoes (fun v s5 gs' hbare hv => ?_) (fun s5 hf h' hk' => ?_) fun er s5 her => ?_)
      · obtain ⟨ys, x1, HE, H4, mine, hn, rv, hcs, hz, un, os5, ag5, hok5, hpn, hz5, hcp, yd, hmine, hmad, wakes⟩ := hv
        intro hsz
        have hcs2 : Inv X pins σ HE (s3.setGen g .running) ∧ (∃ m, (s3.setGen g .running).heap.Ns C m) ∧ ∃ its n, (s3.setGen g .running).heap.get? D = some { cls := .type "list", data := .seq (its : List Value).toArray n } ∧ Vals ys its ∧ ys.length ≤ sizeLine := by subst hDl; exact hcs
        obtain ⟨IE, ⟨m, hnC⟩, its, nn, hlD, hvs, hlen0⟩ := hcs2
        have hsz5 : g < s5.gens.size := by
          have z : (s5.setGen g gs').gens.size = s5.gens.size := setGen_size _ _ _
          have z2 : g + 1 ≤ (s5.setGen g gs').gens.size := hsz
          omega
        have pin : ∀ b ∈ [C, D], ∀ o, (s3.setGen g .running).heap.get? b = some o → s5.heap.get? b = some o ∧ H4 b = none := fun b hb o eo => hcp (b, o) (by subst hDl; exact mem_pinsAt hb eo)
        have hnC5 : s5.heap.Ns C m := hnC.at' fun o eo => (pin C List.mem_cons_self o eo).1
        obtain ⟨hlD5, nD4⟩ := pin D (List.mem_cons_of_mem _ List.mem_cons_self) _ hlD
        have nC4 : H4 C = none := by
          obtain ⟨o, _, _, ho, _⟩ := hnC
          exact (pin C List.mem_cons_self o ho).2
        have I5 : Inv X pins σ H4 (s5.setGen g gs') := (IE.stretch L un hok5 os5 ag5).gensTo (allBare_setGen ag5 hbare)
        have hgo5 : s5.heap.get? a = some go := (hpn _ (List.mem_singleton.mpr rfl)).1
        refine go_of (s := s5.setGen g gs') hgo5 hgc hgd (by decide) ?_
        refine wpAny_assign_Name (wpAny_storeName_local cY (m := m) (by rw [cL]; exact hnC5) (fun h6 hn6 hb6 => ?_) cP)
        rw [cL] at hn6 hb6
        refine wpAny_tests_nil ?_
        rw [if_pos rfl]
        refine wpAny_Name (wpAny_loadName_local cK cY (m := fun z => if z = y then some v else m z) (by rw [cL]; exact hn6) (if_pos rfl) ?_) hdy
        have hlD6 : h6.get? D = some { cls := .type "list", data := .seq its.toArray nn } := (hb6.2 D hDC).trans hlD5
        have hlen := hvs.length
        refine append_at hlD6 (fun h7 hb7 hl7 => ?_) (by rw [List.size_toArray]; omega)
        have keep : ∀ b o, b ∉ [C, D] → s5.heap.get? b = some o → h7.get? b = some o := fun b o hb eo => by
          simp only [List.mem_cons, List.not_mem_nil, or_false, not_or] at hb
          exact (hb7.2 b hb.2).trans ((hb6.2 b hb.1).trans eo)
        have I7 : Inv X pins σ H4 { s5.setGen g gs' with heap := h7, toks := s5.toks + 1 } := I5.far L rfl I5.bare (ch := [C, D]) (fun b hb => by rcases hCD hb with rfl | rfl; exact ⟨nC, nC4⟩; exact ⟨nD, nD4⟩) keep
        have haC : a ∉ [C, D] := fun hb => by
          rcases hCD hb with z | z
          · rw [z, ← hC] at ha2; exact absurd (Nat.lt_trans ha2 (Nat.lt_succ_self _)) (Nat.lt_irrefl _)
          · rw [z, ← hD] at ha2; exact absurd ha2 (Nat.lt_irrefl _)
        have hnC7 : h7.Ns C fun z => if z = y then some v else m z := hn6.sameBut hb7 (Ne.symm hDC)
        obtain ⟨s7, hs7⟩ : ∃ s7 : Shared, s7 = { s5.setGen g gs' with heap := h7, toks := s5.toks + 1 } := ⟨_, rfl⟩
        have hp7 : s7.heap = h7 := by rw [hs7]
        have gn7 : s7.gens = (s5.setGen g gs').gens := by rw [hs7]
        rw [← hs7] at I7
        have I7r : Inv X pins σ H4 (s7.setGen g .running) := I7.gensTo (allBare_setGen I7.bare rfl)
        have hgs7 : s7.gens[g]? = some gs' := by rw [gn7]; exact setGen_at hsz5
        have hn7 : (s7.setGen g .running).heap.Ns C fun z => if z = y then some v else m z := by show s7.heap.Ns C _; rw [hp7]; exact hnC7
        have hl7' : (s7.setGen g .running).heap.get? D = some { cls := .type "list", data := .seq (its ++ [v]).toArray (nn + 1) } := by
          show s7.heap.get? D = _
          rw [hp7, hl7]
          simp
        have hz7 : s1.heap.objs.size ≤ (s7.setGen g .running).heap.objs.size := Nat.le_trans nC (Nat.le_of_lt hn7.lt)
        have wk := wakes H4 (s7.setGen g .running) (mkWk I7r hz7 nC4 nD4 hn7 hl7') (by subst hDl; exact ⟨I7r, ⟨_, hn7⟩, _, _, hl7', hvs.append (.cons rv .nil), by rw [List.length_append, List.length_singleton]; omega⟩) (fun b mb o eb => ⟨(by show s7.heap.get? b = _; rw [hp7]; exact keep b o (fun z => hmad b mb (by subst hDl; exact z)) eb), (hmine b mb).1⟩) (by subst hDl; rfl)
        cases n with
        | zero => exact False.elim wk
        | succ q =>
          have fin : Pd q s7 := by
            rw [hPd]
            exact ⟨gs', H4, hgs7, wk, by rw [hp7]; exact keep a go haC hgo5, I7⟩
          rw [hs7] at fin
          exact ⟨q, Nat.lt_succ_self q, fin⟩
      · obtain ⟨ys, HE, H4, hcs, hz, os5, ag5, un, hok5, hcp, hQ⟩ := hf
        intro _
        have hcs2 : Inv X pins σ HE (s3.setGen g .running) ∧ (∃ m, (s3.setGen g .running).heap.Ns C m) ∧ ∃ its n, (s3.setGen g .running).heap.get? D = some { cls := .type "list", data := .seq (its : List Value).toArray n } ∧ Vals ys its ∧ ys.length ≤ sizeLine := by subst hDl; exact hcs
        obtain ⟨IE, ⟨m, hnC⟩, its, nn, hlD, hvs, hlen0⟩ := hcs2
        have pin : ∀ b ∈ [C, D], ∀ o, (s3.setGen g .running).heap.get? b = some o → s5.heap.get? b = some o ∧ H4 b = none := fun b hb o eo => hcp (b, o) (by subst hDl; exact mem_pinsAt hb eo)
        have hnC5 : s5.heap.Ns C m := hnC.at' fun o eo => (pin C List.mem_cons_self o eo).1
        obtain ⟨hlD5, nD4⟩ := pin D (List.mem_cons_of_mem _ List.mem_cons_self) _ hlD
        have nC4 : H4 C = none := by
          obtain ⟨o, _, _, ho, _⟩ := hnC
          exact (pin C List.mem_cons_self o ho).2
        have I5 : Inv X pins σ H4 (s5.setGen g .finished) := (IE.stretch L un hok5 os5 ag5).gensTo (allBare_setGen ag5 rfl)
        have I6 : Inv X pins σ H4 { s5.setGen g .finished with heap := h' } := I5.call' (ch := []) rfl (Un.kept hk') (I5.hok.kept hk') I5.bare fun _ z => nomatch z
        have I7 := I6.track L nD nD4 hlen0 (hk' _ _ hlD5) hvs
        refine hRR D C _ m _ I7 ?_ (hnC5.keeps hk') ?_
        · rw [hQQ] at hQ
          exact hQ D (I1.hok.fresh nD) nD4
        · obtain ⟨t1, t2, t3, t4⟩ := L.apart nC
          exact ⟨by rw [upd_ne (Ne.symm hDC)]; exact nC4, t2, fun z => I1.nofs nC z, t1, t3, t4⟩
      · obtain ⟨ys, HE, sE, hcs, hz, cx, hge⟩ := her
        obtain ⟨_, _, _, _, _, _, _, _, _, _, _, _, hE⟩ := cx
        exact hE.elim
    · rw [hPd]
      refine ⟨.fresh c, H1, by rw [gn4]; exact hgs, ⟨rfl, ?_⟩, go4, I4⟩
      refine wake X.A.in1 (s4.setGen g .running) Dl QQ hA room.in1 I1.ok.frames kp (os4.trans hos) (allBare_setGen hba4 rfl) (fun b hb => ?_) ?_
      · refine ⟨?_, adAt (HE := H1) (sE := s4.setGen g .running) nsC lD b hb⟩
        subst hDl
        rcases hCD hb with rfl | rfl
        · rw [← hC]; exact Nat.le_succ _
        · rw [← hD]; exact Nat.le_refl _
      · subst hDl
        exact ⟨I4.gensTo (allBare_setGen hba4 rfl), ⟨_, nsC⟩, [], 0, lD, .nil, Nat.zero_le _⟩
  exact codeAny_compStart_list loop (wpAny_pyIter_gen (isg _ go4) loop)
end
end L2

set_option Elab.async false
set_option linter.all false
set_option maxRecDepth 100000
set_option maxHeartbeats 4000000
namespace L2
open PySem PySem.Spec PyProof.Rows GenW
theorem pi_tupK {X : Cx} {K : PySem.W.Frag} (h : X.K = K) {tg l : Expr} {tl : TE} (hl : PE X l tl) : PI X tg l (iTup K tl) := by subst h; exact pi_tup hl
theorem cr_minDK {X : Cx} {K : PySem.W.Frag} (h : X.K = K) (hc : X.calm = true) (hu : X.A.units + 64 < cLine) : CallRK X (.builtin "min") [Str.ofString "default"] (rMxD K mnD) := by subst h; exact cr_minD hc hu
theorem cr_maxDK {X : Cx} {K : PySem.W.Frag} (h : X.K = K) (hc : X.calm = true) (hu : X.A.units + 64 < cLine) : CallRK X (.builtin "max") [Str.ofString "default"] (rMxD K mxD) := by subst h; exact cr_maxD hc hu
section
variable {X : Cx} {k : Nat} {ps : List Str} {sp : SpG3} {x y : Str} {p p1 p2 pos pos2 : Pos} {e : Expr} {es : List Expr} {ta : TA} {scope : Scope} {own : List (Str × Nat)}
/-- as a value -/
theorem pe_lcG (hc : X.calm = true) (O : OwnG3 X.prog X.w X.K X.mg X.base x k ps sp) (room : Room (k + 1) X.A) (ha : PA X (e :: es) ta) (ok : BlkOk X.N X.env.scope scope own) (hy : scope.names.lookup y = some .local) (hgl : Gl X x := by rfl) (hdb : (x == ("__debug__" : Str)) = false := by decide) (hdy : (y == ("__debug__" : Str)) = false := by decide)
    (he : starEach (e :: es) X.env = (false, eval e X.env) :: starEach es X.env := by rfl) (hpl : (backTo pos2 (starEach es X.env)).any (·.1) = false := by rfl) (hs : ∀ z, foldedSetIterable (.Call (.Name x p) (e :: es) [] pos2) X.env z = pure z := by intro _; rfl) :
    PE X (.ListComp (.Name y p1) [⟨.Name y p2, .Call (.Name x p) (e :: es) [] pos2, [], 0⟩] scope pos) (tLcG sp ta) := by
  refine ⟨fun pins s σ H Q I h => ?_⟩
  rw [eval_ListComp]
  refine lcG_core hc I O room ha ok.kind ok.free (fun y hy e => by rw [ok.uniq y hy, e]) hy hgl hdb hdy he hpl hs h fun D C s' m H' I' q hn f => ⟨m, hn, fun h'' sb => ?_⟩
  obtain ⟨f0, f1, f2, f3, f4, f5⟩ := f
  exact ⟨.ref D, H', I'.turned (t' := s'.toks) (fun b o hb e => (sb.2 b hb).trans e) f0 f1 f3 f4 f5, rfl, q⟩
/-- name = [..] on one line, the name a local -/
theorem ps_setLcG {i : Nat} {n : Str} {py spos : Pos} (hc : X.calm = true) (hN : X.N.Nodup) (hn : X.N[i]? = some n) (hnl : X.env.scope.names.lookup n = some .local) (hsw : swapsWith (.ListComp (.Name y p1) [⟨.Name y p2, .Call (.Name x p) (e :: es) [] pos2, [], 0⟩] scope pos) (some (.Name n py)) spos.line X.env = pure true)
    (O : OwnG3 X.prog X.w X.K X.mg X.base x k ps sp) (room : Room (k + 1) X.A) (ha : PA X (e :: es) ta) (ok : BlkOk X.N X.env.scope scope own) (hy : scope.names.lookup y = some .local) (hgl : Gl X x := by rfl) (hdb : (x == ("__debug__" : Str)) = false := by decide) (hdy : (y == ("__debug__" : Str)) = false := by decide)
    (he : starEach (e :: es) X.env = (false, eval e X.env) :: starEach es X.env := by rfl) (hpl : (backTo pos2 (starEach es X.env)).any (·.1) = false := by rfl) (hs : ∀ z, foldedSetIterable (.Call (.Name x p) (e :: es) [] pos2) X.env z = pure z := by intro _; rfl) :
    PS X (.Assign [.Name n py] (.ListComp (.Name y p1) [⟨.Name y p2, .Call (.Name x p) (e :: es) [] pos2, [], 0⟩] scope pos) spos) (tAsg (tLcG sp ta) (gName i)) := by
  refine ⟨fun pins s σ H D I h => ?_⟩
  rw [exec_Assign_Name_used _ _ _ _ hsw]
  refine wpAny_bind (wpAny_standAt (wpAny_bind ?_))
  show wpAny _ X.A (do let _ ← comprehension (.ListComp (.Name y p1) [⟨.Name y p2, .Call (.Name x p) (e :: es) [] pos2, [], 0⟩] scope pos) scope X.env (firstIterPos [⟨.Name y p2, .Call (.Name x p) (e :: es) [] pos2, [], 0⟩] pos) (newList []) false (eval (.Call (.Name x p) (e :: es) [] pos2) X.env) (some (assign (.Name n py) X.env))) _ _ s
  have h : tLcG sp ta σ H (fun x H1 => gName i x σ H1 D.nx) := h
  refine wpAny_bind (thn (lcG_core (Qf := fun _ s' => SP X pins D .next s') hc I O room ha ok.kind ok.free (fun y hy e => by rw [ok.uniq y hy, e]) hy hgl hdb hdy he hpl hs h fun L C s' m H' I' q hm f => ?_) fun _ s' hq => wpAny_pure (wpAny_pure hq))
  show wpAny _ _ (assign (.Name n py) X.env (.ref L)) _ _ _
  refine wpAny_assign_Name (store_ok2 (v := V.ref L) I' hN hn (.inl hnl) rfl (fun s2 I2 ⟨a, sb, ha⟩ => ?_) (.inr hnl))
  obtain ⟨f0, f1, f2, f3, f4, f5⟩ := f
  have haC : C ≠ a := by
    rcases ha with z | z
    · rw [z]; exact f1
    · exact fun e => f4 n a z e.symm
  refine ⟨m, hm.sameBut sb haC, fun h3 sb3 => ?_⟩
  exact ⟨_, H', I2.turned (t' := s2.toks) (fun b o hb e => (sb3.2 b hb).trans e) f0 f1 f3 f4 f5, q⟩
end
end L2

set_option Elab.async false
set_option linter.all false
set_option maxRecDepth 100000
set_option maxHeartbeats 4000000
/-! [x for x in f(..)], where what is out carries a promise -/
namespace L2
open PySem PySem.Spec PyProof.Rows GenW
/-- the items stand in the new list, the heap is the generator's own -/
def tLcY (sp : SpG3) (ta : TA) : TE := fun σ H Q => ta σ H fun vs H1 => ∃ Y : List V → V → Hp → Prop, ∀ cs ad, sp vs H1 ⟨cs, Y, fun ys x H2 H3 => H3 = H2 ∧ Y ys x H2, ad⟩ (fun ys H' => ∀ D, H1 D = none → H' D = none → Q (.ref D) (upd H' D (.lst ys))) (fun _ _ _ => False)
section
variable {X : Cx} {k : Nat} {ps : List Str} {sp : SpG3} {x y : Str} {p p1 p2 pos pos2 pos' : Pos} {e : Expr} {es : List Expr} {ta : TA} {scope : Scope} {use : Option (Value → Sem Unit)} {Qf : Value → Shared → Prop} {pins : List (Addr × Obj)} {s : Shared} {σ : St} {H : Hp} {Q : VK}
theorem lcY_core (hc : X.calm = true) (I : Inv X pins σ H s) (O : OwnG3 X.prog X.w X.K X.mg X.base x k ps sp) (room : Room (k + 1) X.A) (ha : PA X (e :: es) ta) (hkind : scope.kind = .function) (hfr : ∀ y ∈ scope.names, y.2 = .free → X.env.scope.names.lookup y.1 = some .cell ∨ X.env.scope.names.lookup y.1 = some .free)
    (hnm : ∀ x ∈ scope.names, x.2 = .local → scope.names.lookup x.1 = some .local) (hy : scope.names.lookup y = some .local) (hgl : Gl X x) (hdb : (x == ("__debug__" : Str)) = false) (hdy : (y == ("__debug__" : Str)) = false)
    (he : starEach (e :: es) X.env = (false, eval e X.env) :: starEach es X.env) (hpl : (backTo pos2 (starEach es X.env)).any (·.1) = false) (hs : ∀ z, foldedSetIterable (.Call (.Name x p) (e :: es) [] pos2) X.env z = pure z)
    (h : tLcY sp ta σ H Q)
    (hRR : ∀ D C s' m H', Inv X pins σ H' s' → Q (.ref D) H' → s'.heap.Ns C m → FpOk X pins H' C → compPost (model X.prog X.w) X.A X.xe use Qf (.ref D) C (.ok .next) s') :
    wpAny (model X.prog X.w) X.A (comprehension (.ListComp (.Name y p1) [⟨.Name y p2, .Call (.Name x p) (e :: es) [] pos2, [], 0⟩] scope pos) scope X.env pos' (newList []) false (eval (.Call (.Name x p) (e :: es) [] pos2) X.env) use) Qf X.xe s := by
  have hfree : ∀ y ∈ scope.names, y.2 = .free → ∃ c, X.env.cells.lookup y.1 = some c := fun y hy e => I.ok.has _ (hfr y hy e)
  obtain ⟨f, fd, G, hm, hk, hbd⟩ := O.ex
  refine wpAny_comprehension_free (use := use) rfl hs (closure_ok hfree) hkind hnm
    (wpAny_Call_Name_kw (ld_glob I hgl hm (PySem.W.callWith_K (h₀ := X.base) I.ok.mod.kin hk (thn (ha.run pos2 pins s σ H _ I h) fun us s1 ⟨vs, H1, I1, r, Y, q⟩ => ⟨I1.kIn, ?_⟩) he hpl) hdb))
  have hl2 : us.length = ps.length := by rw [← r.length]; exact G.len _ _ _ _ _ (q (fun _ _ _ => True) [])
  have hbs := hbd s1 us I1.kIn (by rw [List.append_nil]; exact hl2)
  rw [List.append_nil] at hbs
  obtain ⟨QQ, hQQ⟩ : ∃ QQ : List V → Hp → Prop, QQ = fun (ys : List V) (H' : Hp) => ∀ D, H1 D = none → H' D = none → Q (.ref D) (upd H' D (.lst ys)) := ⟨_, rfl⟩
  have q2 : ∀ cs ad, sp vs H1 ⟨cs, Y, fun ys x H2 H3 => H3 = H2 ∧ Y ys x H2, ad⟩ QQ (fun _ _ _ => False) := by rw [hQQ]; exact q
  refine wpAny_call (codeAny_mono (G.run X.A X.stack s1 H1 ⟨us, []⟩ us vs (fun Dl' Q' => ∃ cs ad, Dl' = ⟨cs, Y, fun ys x H2 H3 => H3 = H2 ∧ Y ys x H2, ad⟩ ∧ Q' = QQ) (fun _ _ _ => False) ⟨_, _, fun _ _ _ => True, [], rfl, rfl⟩ (room.mono (Nat.le_succ k)) I1.env0 hbs r (fun Dl' Q' z => by obtain ⟨cs, ad, z1, z2⟩ := z; rw [z1, z2]; exact q2 cs ad)) fun r s2 hq => ?_)
  cases r with
  | error _ => exact hq.elim
  | ok fl =>
  cases fl with
  | next => exact hq.elim
  | brk => exact hq.elim
  | cont => exact hq.elim
  | ret u =>
  obtain ⟨a, g, c, go, rfl, ha1, ha2, hgo, isg, hgs, hos, hba, hkp, wake⟩ := hq
  have I2 : Inv X pins σ H1 s2 := I1.call' (ch := []) hos (Un.kept hkp) (I1.hok.kept hkp) hba fun _ z => nomatch z
  refine wpAny_pyIter_gen (isg _ hgo) ?_
  have L : LowX X pins s1.heap.objs.size := I1.low
  have hfrF : ∀ b ∈ frs X.stack, b < s1.heap.objs.size := fun b hb => by
    obtain ⟨_, o, ho, _⟩ := I1.stack.mem hb
    exact Heap.lt_size ho
  have hgl2 : g < s2.gens.size := (Array.getElem?_eq_some_iff.mp hgs).1
  refine wpAny_newObj_type (newEnv_comp ?_) (by show 0 ≤ sizeLine; decide)
  obtain ⟨D, hD⟩ : ∃ D, s2.heap.objs.size = D := ⟨_, rfl⟩
  obtain ⟨C, hC⟩ : ∃ C, s2.heap.objs.size + 1 = C := ⟨_, rfl⟩
  have hDC : D ≠ C := by rw [← hD, ← hC]; exact Nat.ne_of_lt (Nat.lt_succ_self _)
  have nDlt : s1.heap.objs.size < D := by rw [← hD]; exact Nat.lt_of_le_of_lt ha1 ha2
  have nD : s1.heap.objs.size ≤ D := Nat.le_of_lt nDlt
  have nClt : s1.heap.objs.size < C := by rw [← hC]; exact Nat.lt_succ_of_lt (Nat.lt_of_le_of_lt ha1 ha2)
  have nC : s1.heap.objs.size ≤ C := Nat.le_of_lt nClt
  have hCs : (s2.heap.push { cls := .type "list", data := .seq ([] : List Value).toArray }).objs.size = C := by rw [Heap.size_push]; exact hC
  generalize hce : compEnvC scope (cellsFrom ((s2.heap.push { cls := .type "list", data := .seq ([] : List Value).toArray }).objs.size + 1) scope.names (cloFrom X.env.cells scope.names [])) (s2.heap.push { cls := .type "list", data := .seq ([] : List Value).toArray }).objs.size X.env = ce
  rw [hCs] at hce
  have cL : ce.locals = C := by subst hce; rfl
  have cK : ce.scope.kind = .function := by subst hce; exact hkind
  have cY : ce.kindOf y = some .local := by subst hce; exact lookup_relabel_local hy
  have cP : (ce.scope.kind == .class || (ce.scope.kind == .module && ce.locals != ce.globals)) = false := by rw [cK]; rfl
  show codeAny (model X.prog X.w) X.A (.compStart (.ListComp (.Name y p1) [⟨.Name y p2, .Call (.Name x p) (e :: es) [] pos2, [], 0⟩] scope pos) 0 (.ref a) (.ref s2.heap.objs.size) (compEnvC scope (cellsFrom ((s2.heap.push { cls := .type "list", data := .seq ([] : List Value).toArray }).objs.size + 1) scope.names (cloFrom X.env.cells scope.names [])) (s2.heap.push { cls := .type "list", data := .seq ([] : List Value).toArray }).objs.size X.env))
    (compPost (model X.prog X.w) X.A X.xe use Qf (.ref s2.heap.objs.size) (s2.heap.push { cls := .type "list", data := .seq ([] : List Value).toArray }).objs.size) { s2 with heap := pushCells ((s2.heap.push { cls := .type "list", data := .seq ([] : List Value).toArray }).push { cls := .type "dict", data := .dict #[] }) scope.names }
  rw [hCs, hD, hce]
  have nsC4 : (pushCells ((s2.heap.push { cls := .type "list", data := .seq ([] : List Value).toArray }).push { cls := .type "dict", data := .dict #[] }) scope.names).Ns C fun _ => none := by
    rw [← hCs]
    exact Heap.Ns.keeps (Heap.Ns.new ..) fun b o e => pushCells_keeps _ _ _ _ e
  have lD4 : (pushCells ((s2.heap.push { cls := .type "list", data := .seq ([] : List Value).toArray }).push { cls := .type "dict", data := .dict #[] }) scope.names).get? D = some { cls := .type "list", data := .seq ([] : List Value).toArray 0 } := by
    refine pushCells_keeps _ _ _ _ (Heap.get?_push_of_some _ ?_)
    rw [← hD]
    exact Heap.get?_push_size _ rfl
  have kp4 : ∀ b o, s2.heap.get? b = some o → (pushCells ((s2.heap.push { cls := .type "list", data := .seq ([] : List Value).toArray }).push { cls := .type "dict", data := .dict #[] }) scope.names).get? b = some o := fun b o e => pushCells_keeps _ _ _ _ (Heap.get?_push_of_some _ (Heap.get?_push_of_some _ e))
  obtain ⟨s4, hs4⟩ : ∃ s4 : Shared, s4 = { s2 with heap := pushCells ((s2.heap.push { cls := .type "list", data := .seq ([] : List Value).toArray }).push { cls := .type "dict", data := .dict #[] }) scope.names } := ⟨_, rfl⟩
  rw [← hs4]
  have nsC : s4.heap.Ns C fun _ => none := by rw [hs4]; exact nsC4
  have lD : s4.heap.get? D = some { cls := .type "list", data := .seq ([] : List Value).toArray 0 } := by rw [hs4]; exact lD4
  have kp : ∀ b o, s2.heap.get? b = some o → s4.heap.get? b = some o := by rw [hs4]; exact kp4
  have os4 : s4.os = s2.os := by rw [hs4]
  have gn4 : s4.gens = s2.gens := by rw [hs4]
  clear hs4 kp4 lD4 nsC4
  have hba4 : AllBare s4.gens := by rw [gn4]; exact hba
  have I4 : Inv X pins σ H1 s4 := I2.call' (ch := []) os4 (Un.kept kp) (I2.hok.kept kp) hba4 fun _ z => nomatch z
  have hCD : ∀ {b : Addr}, b ∈ [C, D] → b = C ∨ b = D := fun hb => by simpa using hb
  -- the deal
  generalize hDl : (⟨fun ys HE sE => Inv X pins σ HE sE ∧ (∃ m, sE.heap.Ns C m) ∧ ∃ its n, sE.heap.get? D = some { cls := .type "list", data := .seq (its : List Value).toArray n } ∧ Vals ys its ∧ ys.length ≤ sizeLine, Y, fun ys x H2 H3 => H3 = H2 ∧ Y ys x H2, [C, D]⟩ : Deal) = Dl
  have hA : ∃ cs ad, Dl = ⟨cs, Y, fun ys x H2 H3 => H3 = H2 ∧ Y ys x H2, ad⟩ ∧ QQ = QQ := ⟨_, _, hDl.symm, rfl⟩
  have adAt : ∀ {HE : Hp} {sE : Shared} {m : Str → Option Value} {its : List Value} {n : Nat}, sE.heap.Ns C m → sE.heap.get? D = some { cls := .type "list", data := .seq its.toArray n } → ∀ b ∈ Dl.ad, ∃ o, sE.heap.get? b = some o ∧ ∀ v, o.data ≠ .cell v := fun {HE sE m its n} hn hl b hb => by
    subst hDl
    rcases hCD hb with rfl | rfl
    · obtain ⟨o, es', ep, ho, hd, _⟩ := hn
      exact ⟨o, ho, fun v z => by rw [hd] at z; cases z⟩
    · exact ⟨_, hl, fun v z => by cases z⟩
  have mkWk : ∀ {H' s' m its n}, Inv X pins σ H' s' → s1.heap.objs.size ≤ s'.heap.objs.size → H' C = none → H' D = none → s'.heap.Ns C m → s'.heap.get? D = some { cls := .type "list", data := .seq (its : List Value).toArray n } → Wk X.prog X.w X.base X.stack s1.heap.objs.size Dl.ad H' s' := fun {H' s' m its n} I' hz hc' hd' hn hl =>
    ⟨I'.bare, I'.bs, I'.stack, fun b hb => ⟨hfrF b hb, I'.stkFree b hb⟩, I'.hok, hz, fun b hb => by
      have q := adAt (HE := H') hn hl b hb
      subst hDl
      rcases hCD hb with rfl | rfl
      · exact ⟨nClt, hc', fun z => absurd (hfrF _ z) (Nat.not_lt.mpr nC), q⟩
      · exact ⟨nDlt, hd', fun z => absurd (hfrF _ z) (Nat.not_lt.mpr nD), q⟩⟩
  have go4 : s4.heap.get? a = some go := kp _ _ hgo
  have loop : codeAny (model X.prog X.w) X.A (.compLoop (.ListComp (.Name y p1) [⟨.Name y p2, .Call (.Name x p) (e :: es) [] pos2, [], 0⟩] scope pos) 0 (.ref a) (.ref D) ce) (compPost (model X.prog X.w) X.A X.xe use Qf (.ref D) C) s4 := by
    obtain ⟨Pd, hPd⟩ : ∃ Pd : Nat → Shared → Prop, Pd = fun n s' => ∃ gs H', s'.gens[g]? = some gs ∧ gs.Goes (model X.prog X.w) X.A.in1 (End3 X.prog X.w X.stack s1.heap.objs.size Dl QQ (fun _ _ _ => False) a g) (GY3 X.prog X.w X.base X.stack [(a, go)] s1.heap.objs.size Dl) n (.send .none) (s'.setGen g .running) ∧ s'.heap.get? a = some go ∧ Inv X pins σ H' s' := ⟨_, rfl⟩
    refine compLoop_any Pd ?_ sizeLine ?_
    · intro n s3 hh
      rw [hPd] at hh
      obtain ⟨gs, H3, hgs3, hgoes, hgo3, I3⟩ := hh
      have hgl3 : g < s3.gens.size := (Array.getElem?_eq_some_iff.mp hgs3).1
      have hcd : ∃ nm qn, go.cls = .type "generator" ∧ go.data = .fields #[.int g 0, nm, qn] := by
        obtain ⟨o, nm, qn, ho, hc, hd, _⟩ := isg _ hgo
        rw [hgo] at ho; cases ho
        exact ⟨nm, qn, hc, hd⟩
      obtain ⟨nm, qn, hgc, hgd⟩ := hcd
      refine wpAny_gsz (n := g + 1) hgl3 (next_genG (A := X.A) (I3.ok.hd hc) I3.nolimit room.depth (isg _ hgo3) hgs3 hgoes (fun v s5 gs' hbare hv => ?_) (fun s5 hf h' hk' => ?_) fun er s5 her => ?_)
      · obtain ⟨ys, x1, HE, H4, mine, hn, rv, hcs, hz, un, os5, ag5, hok5, hpn, hz5, hcp, yd, hmine, hmad, wakes⟩ := hv
        intro hsz
        have hcs2 : Inv X pins σ HE (s3.setGen g .running) ∧ (∃ m, (s3.setGen g .running).heap.Ns C m) ∧ ∃ its n, (s3.setGen g .running).heap.get? D = some { cls := .type "list", data := .seq (its : List Value).toArray n } ∧ Vals ys its ∧ ys.length ≤ sizeLine := by subst hDl; exact hcs
        obtain ⟨IE, ⟨m, hnC⟩, its, nn, hlD, hvs, hlen0⟩ := hcs2
        have hsz5 : g < s5.gens.size := by
          have z : (s5.setGen g gs').gens.size = s5.gens.size := setGen_size _ _ _
          have z2 : g + 1 ≤ (s5.setGen g gs').gens.size := hsz
          omega
        have pin : ∀ b ∈ [C, D], ∀ o, (s3.setGen g .running).heap.get? b = some o → s5.heap.get? b = some o ∧ H4 b = none := fun b hb o eo => hcp (b, o) (by subst hDl; exact mem_pinsAt hb eo)
        have hnC5 : s5.heap.Ns C m := hnC.at' fun o eo => (pin C List.mem_cons_self o eo).1
        obtain ⟨hlD5, nD4⟩ := pin D (List.mem_cons_of_mem _ List.mem_cons_self) _ hlD
        have nC4 : H4 C = none := by
          obtain ⟨o, _, _, ho, _⟩ := hnC
          exact (pin C List.mem_cons_self o ho).2
        have I5 : Inv X pins σ H4 (s5.setGen g gs') := (IE.stretch L un hok5 os5 ag5).gensTo (allBare_setGen ag5 hbare)
        have hgo5 : s5.heap.get? a = some go := (hpn _ (List.mem_singleton.mpr rfl)).1
        refine go_of (s := s5.setGen g gs') hgo5 hgc hgd (by decide) ?_
        refine wpAny_assign_Name (wpAny_storeName_local cY (m := m) (by rw [cL]; exact hnC5) (fun h6 hn6 hb6 => ?_) cP)
        rw [cL] at hn6 hb6
        refine wpAny_tests_nil ?_
        rw [if_pos rfl]
        refine wpAny_Name (wpAny_loadName_local cK cY (m := fun z => if z = y then some v else m z) (by rw [cL]; exact hn6) (if_pos rfl) ?_) hdy
        have hlD6 : h6.get? D = some { cls := .type "list", data := .seq its.toArray nn } := (hb6.2 D hDC).trans hlD5
        have hlen := hvs.length
        refine append_at hlD6 (fun h7 hb7 hl7 => ?_) (by rw [List.size_toArray]; omega)
        have keep : ∀ b o, b ∉ [C, D] → s5.heap.get? b = some o → h7.get? b = some o := fun b o hb eo => by
          simp only [List.mem_cons, List.not_mem_nil, or_false, not_or] at hb
          exact (hb7.2 b hb.2).trans ((hb6.2 b hb.1).trans eo)
        have I7 : Inv X pins σ H4 { s5.setGen g gs' with heap := h7, toks := s5.toks + 1 } := I5.far L rfl I5.bare (ch := [C, D]) (fun b hb => by rcases hCD hb with rfl | rfl; exact ⟨nC, nC4⟩; exact ⟨nD, nD4⟩) keep
        have haC : a ∉ [C, D] := fun hb => by
          rcases hCD hb with z | z
          · rw [z, ← hC] at ha2; exact absurd (Nat.lt_trans ha2 (Nat.lt_succ_self _)) (Nat.lt_irrefl _)
          · rw [z, ← hD] at ha2; exact absurd ha2 (Nat.lt_irrefl _)
        have hnC7 : h7.Ns C fun z => if z = y then some v else m z := hn6.sameBut hb7 (Ne.symm hDC)
        obtain ⟨s7, hs7⟩ : ∃ s7 : Shared, s7 = { s5.setGen g gs' with heap := h7, toks := s5.toks + 1 } := ⟨_, rfl⟩
        have hp7 : s7.heap = h7 := by rw [hs7]
        have gn7 : s7.gens = (s5.setGen g gs').gens := by rw [hs7]
        rw [← hs7] at I7
        have I7r : Inv X pins σ H4 (s7.setGen g .running) := I7.gensTo (allBare_setGen I7.bare rfl)
        have hgs7 : s7.gens[g]? = some gs' := by rw [gn7]; exact setGen_at hsz5
        have hn7 : (s7.setGen g .running).heap.Ns C fun z => if z = y then some v else m z := by show s7.heap.Ns C _; rw [hp7]; exact hnC7
        have hl7' : (s7.setGen g .running).heap.get? D = some { cls := .type "list", data := .seq (its ++ [v]).toArray (nn + 1) } := by
          show s7.heap.get? D = _
          rw [hp7, hl7]
          simp
        have hz7 : s1.heap.objs.size ≤ (s7.setGen g .running).heap.objs.size := Nat.le_trans nC (Nat.le_of_lt hn7.lt)
        have wk := wakes H4 (s7.setGen g .running) (mkWk I7r hz7 nC4 nD4 hn7 hl7') (by subst hDl; exact ⟨I7r, ⟨_, hn7⟩, _, _, hl7', hvs.append (.cons rv .nil), by rw [List.length_append, List.length_singleton]; omega⟩) (fun b mb o eb => ⟨(by show s7.heap.get? b = _; rw [hp7]; exact keep b o (fun z => hmad b mb (by subst hDl; exact z)) eb), (hmine b mb).1⟩) (by subst hDl; exact ⟨rfl, yd⟩)
        cases n with
        | zero => exact False.elim wk
        | succ q =>
          have fin : Pd q s7 := by
            rw [hPd]
            exact ⟨gs', H4, hgs7, wk, by rw [hp7]; exact keep a go haC hgo5, I7⟩
          rw [hs7] at fin
          exact ⟨q, Nat.lt_succ_self q, fin⟩
      · obtain ⟨ys, HE, H4, hcs, hz, os5, ag5, un, hok5, hcp, hQ⟩ := hf
        intro _
        have hcs2 : Inv X pins σ HE (s3.setGen g .running) ∧ (∃ m, (s3.setGen g .running).heap.Ns C m) ∧ ∃ its n, (s3.setGen g .running).heap.get? D = some { cls := .type "list", data := .seq (its : List Value).toArray n } ∧ Vals ys its ∧ ys.length ≤ sizeLine := by subst hDl; exact hcs
        obtain ⟨IE, ⟨m, hnC⟩, its, nn, hlD, hvs, hlen0⟩ := hcs2
        have pin : ∀ b ∈ [C, D], ∀ o, (s3.setGen g .running).heap.get? b = some o → s5.heap.get? b = some o ∧ H4 b = none := fun b hb o eo => hcp (b, o) (by subst hDl; exact mem_pinsAt hb eo)
        have hnC5 : s5.heap.Ns C m := hnC.at' fun o eo => (pin C List.mem_cons_self o eo).1
        obtain ⟨hlD5, nD4⟩ := pin D (List.mem_cons_of_mem _ List.mem_cons_self) _ hlD
        have nC4 : H4 C = none := by
          obtain ⟨o, _, _, ho, _⟩ := hnC
          exact (pin C List.mem_cons_self o ho).2
        have I5 : Inv X pins σ H4 (s5.setGen g .finished) := (IE.stretch L un hok5 os5 ag5).gensTo (allBare_setGen ag5 rfl)
        have I6 : Inv X pins σ H4 { s5.setGen g .finished with heap := h' } := I5.call' (ch := []) rfl (Un.kept hk') (I5.hok.kept hk') I5.bare fun _ z => nomatch z
        have I7 := I6.track L nD nD4 hlen0 (hk' _ _ hlD5) hvs
        refine hRR D C _ m _ I7 ?_ (hnC5.keeps hk') ?_
        · rw [hQQ] at hQ
          exact hQ D (I1.hok.fresh nD) nD4
        · obtain ⟨t1, t2, t3, t4⟩ := L.apart nC
          exact ⟨by rw [upd_ne (Ne.symm hDC)]; exact nC4, t2, fun z => I1.nofs nC z, t1, t3, t4⟩
      · obtain ⟨ys, HE, sE, hcs, hz, cx, hge⟩ := her
        obtain ⟨_, _, _, _, _, _, _, _, _, _, _, _, hE⟩ := cx
        exact hE.elim
    · rw [hPd]
      refine ⟨.fresh c, H1, by rw [gn4]; exact hgs, ⟨rfl, ?_⟩, go4, I4⟩
      refine wake X.A.in1 (s4.setGen g .running) Dl QQ hA room.in1 I1.ok.frames kp (os4.trans hos) (allBare_setGen hba4 rfl) (fun b hb => ?_) ?_
      · refine ⟨?_, adAt (HE := H1) (sE := s4.setGen g .running) nsC lD b hb⟩
        subst hDl
        rcases hCD hb with rfl | rfl
        · rw [← hC]; exact Nat.le_succ _
        · rw [← hD]; exact Nat.le_refl _
      · subst hDl
        exact ⟨I4.gensTo (allBare_setGen hba4 rfl), ⟨_, nsC⟩, [], 0, lD, .nil, Nat.zero_le _⟩
  exact codeAny_compStart_list loop (wpAny_pyIter_gen (isg _ go4) loop)
end
section
variable {X : Cx} {k : Nat} {ps : List Str} {sp : SpG3} {x y : Str} {p p1 p2 pos pos2 : Pos} {e : Expr} {es : List Expr} {ta : TA} {scope : Scope} {own : List (Str × Nat)}
/-- as a value -/
theorem pe_lcY (hc : X.calm = true) (O : OwnG3 X.prog X.w X.K X.mg X.base x k ps sp) (room : Room (k + 1) X.A) (ha : PA X (e :: es) ta) (ok : BlkOk X.N X.env.scope scope own) (hy : scope.names.lookup y = some .local) (hgl : Gl X x := by rfl) (hdb : (x == ("__debug__" : Str)) = false := by decide) (hdy : (y == ("__debug__" : Str)) = false := by decide)
    (he : starEach (e :: es) X.env = (false, eval e X.env) :: starEach es X.env := by rfl) (hpl : (backTo pos2 (starEach es X.env)).any (·.1) = false := by rfl) (hs : ∀ z, foldedSetIterable (.Call (.Name x p) (e :: es) [] pos2) X.env z = pure z := by intro _; rfl) :
    PE X (.ListComp (.Name y p1) [⟨.Name y p2, .Call (.Name x p) (e :: es) [] pos2, [], 0⟩] scope pos) (tLcY sp ta) := by
  refine ⟨fun pins s σ H Q I h => ?_⟩
  rw [eval_ListComp]
  refine lcY_core hc I O room ha ok.kind ok.free (fun y hy e => by rw [ok.uniq y hy, e]) hy hgl hdb hdy he hpl hs h fun D C s' m H' I' q hn f => ⟨m, hn, fun h'' sb => ?_⟩
  obtain ⟨f0, f1, f2, f3, f4, f5⟩ := f
  exact ⟨.ref D, H', I'.turned (t' := s'.toks) (fun b o hb e => (sb.2 b hb).trans e) f0 f1 f3 f4 f5, rfl, q⟩
end
end L2

set_option Elab.async false
set_option maxRecDepth 100000
set_option maxHeartbeats 4000000
/-! repr of data; defs whose promise holds where no repr is under way; the end of a law of such a def -/
namespace L2
open PySem PySem.Spec PyProof.Rows
section
variable {X : Cx}
/-- repr(x), x data of any depth -/
theorem call_repr (hg : X.A.guards = some []) (hu : X.A.units + 65 < cLine) : CallR X (.builtin "repr") (fun xs H Q => ∃ x d, xs = [x] ∧ Dp X.K H x d ∧ d.canLay0 = true ∧ d.depth ≤ 64 ∧ d.showable = true ∧ d.shown.length ≤ sizeLine ∧ Q (.str d.shown) H) := by
  intro pins s σ H xs us Q I r h
  obtain ⟨x, d, rfl, hd, hl, hdp, hs, hz, q⟩ := h
  obtain ⟨u, rfl, rx⟩ := vals1 r
  have big : ∀ a, x = .ref a → wpAny (model X.prog X.w) X.A (call (.builtin "repr") [u]) (EP X pins σ Q) X.xe s := fun a ea => by
    subst ea
    obtain rfl : u = Value.ref a := rx
    obtain ⟨as, r1⟩ := Dp.reads I d (.ref a) (.ref a) hd rfl
    exact repr_of_reads' r1 hs (PyData.noDict_hsm (PyData.hasDict_of_canLay d hl)) hg (by omega) (fun _ _ e => e) (fun h' u tk hk => ⟨.str _, H, I.kept hk, ⟨_, rfl⟩, q⟩) hz
  cases hd with
  | non =>
    obtain rfl : u = Value.none := rx
    rw [PyData.shown] at q
    exact PySem.P.repr_of_none ⟨.str _, H, I.tok _, ⟨_, rfl⟩, q⟩
  | bl b =>
    obtain rfl : u = Value.bool b := rx
    rw [PyData.shown] at q
    refine PySem.P.repr_of_bool ⟨.str _, H, I.tok _, ⟨_, rfl⟩, ?_⟩
    cases b <;> exact q
  | int i =>
    obtain ⟨t, rfl⟩ := rx
    rw [PyData.shown] at q
    exact PySem.P.repr_of_int (by simpa [PyData.showable] using hs) ⟨.str _, H, I.tok _, ⟨_, rfl⟩, q⟩
  | str z =>
    obtain ⟨t, rfl⟩ := rx
    rw [PyData.shown] at q hz
    exact PySem.P.repr_of_str ⟨.str _, H, I.tok _, ⟨_, rfl⟩, q⟩ hz
  | lst h1 h2 => exact big _ rfl
  | tup h1 h2 => exact big _ rfl
end
/-- a def whose promise holds where no repr is under way -/
structure FnClr (P : Program) (w : World) (K : PySem.W.Frag) (mg : Str → Option Value) (base : Heap) (CX : CXT) (k : Nat) (f : Addr) (fd : FuncData) (ps : List Str) (sp : Sp) : Prop where
  len : ∀ vs H Q E, sp vs H Q E → vs.length = ps.length
  run : ∀ (AA : Around) (outer : List Env) (sh : Shared) (H : Hp) (args : Args) (us : List Value) (vs : List V) (Q : VK) (E : XK), AA.guards = some [] → Room k AA → Env0 P w K mg base AA outer sh H →
    BindsTo sh fd args (ps.zip us) → Vals vs us → sp vs H Q E → codeAny (model P w) AA (.call (.ref f) args) (CR CX outer P w H sh Q E) sh
section
variable {CX : CXT} {P : Program} {w : World} {K : PySem.W.Frag} {mg : Str → Option Value} {base : Heap} {k : Nat} {f : Addr} {fd : FuncData} {x qual : Str} {st : Stmt} {N ps : List Str} {sp : Sp}
theorem FnOk.toClr (F : FnOk P w K mg base CX k f fd ps sp) : FnClr P w K mg base CX k f fd ps sp := ⟨F.len, fun AA outer sh H args us vs Q E _ hr => F.run AA outer sh H args us vs Q E hr⟩
theorem FnClr.imp {sp' : Sp} (F : FnClr P w K mg base CX k f fd ps sp) (h : ∀ vs H Q E, sp' vs H Q E → sp vs H Q E) : FnClr P w K mg base CX k f fd ps sp' :=
  ⟨fun vs H Q E z => F.len vs H Q E (h _ _ _ _ z), fun AA outer sh H args us vs Q E hg hr he hb hv z => F.run AA outer sh H args us vs Q E hg hr he hb hv (h _ _ _ _ z)⟩
theorem fnClr_of (F : Fun K x qual st f fd) (S : FnScope N ps (defScope st)) (len : ∀ vs H Q E, sp vs H Q E → vs.length = ps.length)
    (hbody : ∀ (cdv : Value) (AA : Around) (outer : List Env) (sh : Shared) (H : Hp) (vs : List V) (Q : VK) (E : XK), (AA.deeper (envOfC qual (defScope st) sh.heap.objs.size f cdv)).guards = some [] → Room k (AA.deeper (envOfC qual (defScope st) sh.heap.objs.size f cdv)) → sp vs H Q E →
      ∃ t, PSs (cxOf CX P w K mg base N qual (defScope st) f cdv AA outer sh H E) (defBody st) t ∧ t { nx := fun _ H' => Q .non H', rt := Q } (L2.start N vs) H) : FnClr P w K mg base CX (k + 1) f fd ps sp := by
  obtain ⟨oc, od, kV, doc, pm, an, cdv, ct, osl, rfl, lk, hcd⟩ := F.ex
  refine ⟨len, fun AA outer sh H args us vs Q E hg hr e0 hb r hsp => ?_⟩
  have hl := len _ _ _ _ hsp
  have KX : K.In sh.heap := e0.mod.kin.keeps fun b o e => (e0.bs b o e).1
  have lim : sh.heap.NoLimit := e0.mod.nolimit.keeps fun b o e => (e0.bs b o e).1
  have binds : ∀ y ∈ ps.zip us, (defScope st).names.lookup y.1 = some .local ∨ ((defScope st).names.lookup y.1 = some .cell ∧ ((cellsFrom (sh.heap.objs.size + 1) (defScope st).names []).lookup y.1).isSome = true) := by
    rintro ⟨n, v⟩ hy
    rcases S.par n (List.of_mem_zip hy).1 with q | q
    · exact .inl q
    · exact .inr ⟨q, PySem.W.cellsFrom_some _ _ _ (.inl q)⟩
  refine codeAny_call_function hr.depth (KX _ _ lk) rfl S.co S.gen rfl (PySem.W.codeRec_of KX hcd) (hb _ _ _ _ ?_)
  refine wpAny_newFunctionEnv_cells S.kind binds fun env he s1 xx => ?_
  subst he
  refine ⟨lim.keeps xx.toInCall.keep, codeAny_func ?_⟩
  obtain ⟨t, ht, hq⟩ := hbody cdv AA outer sh H vs Q E hg (hr.deeper _) hsp
  have I := inv_start (CX := CX) (cd := cdv) (E := E) S hr.hd e0 hl r xx
  refine wpAny_mono (ht.run [] s1 (L2.start N vs) H _ I hq) (fun fl s' hs => ?_) fun _ _ hs => hs
  cases fl with
  | ret u =>
    obtain ⟨v, σ', H', J, rv, q⟩ := hs
    exact ⟨v, H', J.os, J.bare, J.base, J.hok, rv, q⟩
  | next =>
    obtain ⟨σ', H', J, q⟩ := hs
    exact ⟨V.non, H', J.os, J.bare, J.base, J.hok, rfl, q⟩
  | brk =>
    obtain ⟨_, _, _, q⟩ := hs
    exact q.elim
  | cont =>
    obtain ⟨_, _, _, q⟩ := hs
    exact q.elim
/-- .. whose suite lets nothing past -/
theorem Fun.okClr (F : Fun K x qual st f fd) (S : FnScope N ps (defScope st)) (len : ∀ vs H Q E, sp vs H Q E → vs.length = ps.length)
    (hbody : ∀ (cdv : Value) (AA : Around) (outer : List Env) (sh : Shared) (H : Hp) (vs : List V) (Q : VK) (E : XK), (AA.deeper (envOfC qual (defScope st) sh.heap.objs.size f cdv)).guards = some [] → Room k (AA.deeper (envOfC qual (defScope st) sh.heap.objs.size f cdv)) → sp vs H Q E →
      ∃ t, PSs (cxOf CX0 P w K mg base N qual (defScope st) f cdv AA outer sh H E).nox (defBody st) t ∧ t { nx := fun _ H' => Q .non H', rt := Q } (L2.start N vs) H) : FnClr P w K mg base CX0 (k + 1) f fd ps sp :=
  fnClr_of F S len fun cdv AA outer sh H vs Q E hg hr hsp => by
    obtain ⟨t, h, q⟩ := hbody cdv AA outer sh H vs Q E hg hr hsp
    exact ⟨t, h.nox, q⟩
end
/-- a def of the top that keeps such a promise -/
structure OwnClr (P : Program) (w : World) (K : PySem.W.Frag) (mg : Str → Option Value) (base : Heap) (CX : CXT) (x : Str) (k : Nat) (ps : List Str) (sp : Sp) : Prop where
  ex : ∃ (f : Addr) (fd : FuncData), FnClr P w K mg base CX k f fd ps sp ∧ mg x = some (.ref f) ∧ PySem.W.keepIn K (.ref f) = true ∧ Binds K fd ps []
section
variable {P : Program} {w : World} {K : PySem.W.Frag} {mg : Str → Option Value} {base : Heap} {CX : CXT} {x : Str} {k : Nat} {ps : List Str} {sp : Sp} {st : Stmt}
theorem DefAt.ownClr (D : DefAt K mg x st ps) (h : ∀ f fd, Fun K x x st f fd → FnClr P w K mg base CX k f fd ps sp) : OwnClr P w K mg base CX x k ps sp := by
  obtain ⟨f, fd, F, hm, hb⟩ := D.ex
  exact ⟨f, fd, h f fd F, hm, F.kp, hb⟩
theorem Own.toClr (O : Own P w K mg base CX x k ps sp) : OwnClr P w K mg base CX x k ps sp := by
  obtain ⟨f, fd, F, hm, hk, hb⟩ := O.ex
  exact ⟨f, fd, F.toClr, hm, hk, hb⟩
end
section
variable {X : Cx} {CX : CXT} {x : Str} {k : Nat} {ps : List Str} {sp : Sp} {e : Expr} {es : List Expr} {t : TA} {p pos : Pos}
/-- f(e, ..) of such a def -/
theorem pe_ownClr (O : OwnClr X.prog X.w X.K X.mg X.base CX x k ps sp) (hg0 : X.A.guards = some []) (hr : Room k X.A) (hx : Passes CX X E0) (ha : PA X (e :: es) t) (hg : Gl X x := by rfl) (hdb : (x == ("__debug__" : Str)) = false := by decide)
    (he : starEach (e :: es) X.env = (false, eval e X.env) :: starEach es X.env := by rfl) (hpl : (backTo pos (starEach es X.env)).any (·.1) = false := by rfl) : PE X (.Call (.Name x p) (e :: es) [] pos) (tCall sp [] E0 t) := by
  obtain ⟨f, fd, F, hm, hk, hb⟩ := O.ex
  refine ⟨fun pins s σ H Q I h => wpAny_Call_Name_kw (ld_glob I hg hm ?_ hdb)⟩
  refine PySem.W.callWith_K (h₀ := X.base) I.ok.mod.kin hk (thn (ha.run pos pins s σ H _ I h) fun us s1 ⟨vs, H1, I1, r, hsp⟩ => ⟨I1.kIn, ?_⟩) he hpl
  have hsp : sp vs H1 Q E0 := by
    have z : sp (vs ++ []) H1 Q E0 := hsp
    rwa [List.append_nil] at z
  have hl : us.length = ps.length := by
    rw [← r.length]
    exact F.len _ _ _ _ hsp
  have bd := hb s1 us I1.kIn (by rw [List.append_nil]; exact hl)
  rw [List.append_nil] at bd
  refine wpAny_call (codeAny_mono (F.run X.A X.stack s1 H1 ⟨us, []⟩ us vs Q E0 hg0 hr I1.env0 bd r hsp) fun rr s' hq => ?_)
  match rr, hq with
  | .error ee, hq => exact hx pins σ H1 s1 ee s' I1 hq
  | .ok (.ret u), hq => exact I1.after hq
  | .ok .next, hq => exact hq.elim
  | .ok .brk, hq => exact hq.elim
  | .ok .cont, hq => exact hq.elim
end
/-! ### the end -/
/-- nothing is tracked but the script, where it is -/
def scr (t : Bool) (a : Addr) (o : Obj) (ns : List Int) : Hp := fun b => if t = true ∧ b = a then some (.frz o (.lst (ns.map V.int))) else none
theorem scr_at {t : Bool} {a b : Addr} {o : Obj} {ns : List Int} {u : HO} (h : scr t a o ns b = some u) : t = true ∧ b = a ∧ u = .frz o (.lst (ns.map V.int)) := by
  unfold scr at h
  by_cases hb : t = true ∧ b = a
  · rw [if_pos hb] at h
    cases h
    exact ⟨hb.1, hb.2, rfl⟩
  · rw [if_neg hb] at h
    cases h
theorem scr_no {t : Bool} {a b : Addr} {o : Obj} {ns : List Int} (h : ¬ (t = true ∧ b = a)) : scr t a o ns b = none := if_neg h
theorem law_callClr {P : Program} {w : World} {K : PySem.W.Frag} {mg mb : Str → Option Value} {CX : CXT} {k : Nat} {fa a : Addr} {fd : FuncData} {x : Str} {sp : Sp} {sh : Shared} {vs : List Value} {ns : List Int}
    (KX : K.In sh.heap) (hns : sh.heap.Ns mainGlobals mg) (hb : sh.heap.Ns builtinsNs mb) (hbb : ∀ x : Str, x ≠ "__name__" → mb x = bootBuiltins x) (hlim : sh.heap.NoLimit) (hgn : sh.gens = #[])
    (ha : sh.heap.get? a = some { cls := .type "list", data := .seq vs.toArray }) (hi : IntsAre vs ns) (hl : ns.length ≤ sizeLine) (hr : Room k callerA)
    (F : ∀ base : Heap, K.In base → base.Ns mainGlobals mg → FnClr P w K mg base CX k fa fd [x] sp) (hbind : ∀ (s : Shared) (u : Value), BindsTo s fd ⟨[u], []⟩ [(x, u)])
    (hsp : ∀ H : Hp, SqL K H a (ns.map V.int) → sp [.ref a] H (fun v _ => v = .bl true) fun _ _ _ => False)
    (hCX : ∀ H e s', CX [] H sh (fun _ _ _ => False) e s' → False) :
    codeAny (model P w) callerA (.call (.ref fa) ⟨[.ref a], []⟩) (fun r s' => r = .ok (.ret (.bool true)) ∧ OldK sh.heap s'.heap ∧ s'.os = sh.os ∧ AllBare s'.gens) sh := by
  have rv := vals_ints hi
  have hlen := hi.length
  obtain ⟨t, ht⟩ : ∃ t : Bool, t = true ↔ K.lookup a = none := by
    cases K.lookup a with
    | none => exact ⟨true, fun _ => rfl, fun _ => rfl⟩
    | some o => exact ⟨false, fun z => (by cases z), fun z => (by cases z)⟩
  -- what is in the fragment, and what is a dict, is not the script
  have nK : ∀ {b : Addr} {o : Obj}, K.lookup b = some o → scr t a { cls := .type "list", data := .seq vs.toArray } ns b = none := fun {b o} h => scr_no fun ⟨h1, h2⟩ => by
    rw [h2, ht.mp h1] at h
    cases h
  have nD : ∀ {b : Addr} {o : Obj} {es : Array DictEntry} {ep : Nat}, sh.heap.get? b = some o → o.data = .dict es ep → scr t a { cls := .type "list", data := .seq vs.toArray } ns b = none := fun {b o es ep} h hd => scr_no fun ⟨_, h2⟩ => by
    rw [h2, ha] at h
    cases h
    cases hd
  have hok : HOk P w (scr t a { cls := .type "list", data := .seq vs.toArray } ns) sh.heap := fun b u h => by
    obtain ⟨_, rfl, rfl⟩ := scr_at h
    exact ⟨ha, by rw [List.length_map]; exact hl, vs, _, rv, ha⟩
  have hS : SqL K (scr t a { cls := .type "list", data := .seq vs.toArray } ns) a (ns.map V.int) := by
    cases hk : K.lookup a with
    | none => exact .inl (.inr ⟨_, if_pos ⟨ht.mpr hk, rfl⟩⟩)
    | some o =>
      have e := KX a o hk
      rw [ha] at e
      cases e
      exact .inr ⟨_, vs.toArray, _, hk, rfl, rfl, rfl, by rw [List.size_toArray, hlen]; exact hl, by simpa using rv⟩
  have kin : K.In (hidT sh.heap (scr t a { cls := .type "list", data := .seq vs.toArray } ns)) := fun b o h => hidT_get (KX b o h) (nK h)
  have nsx : ∀ {b : Addr} {m : Str → Option Value}, sh.heap.Ns b m → (hidT sh.heap (scr t a { cls := .type "list", data := .seq vs.toArray } ns)).Ns b m := fun ⟨o, es, ep, h, d, r⟩ => ⟨o, es, ep, hidT_get h (nD h d), d, r⟩
  generalize hH : scr t a { cls := .type "list", data := .seq vs.toArray } ns = H at *
  have e0 : Env0 P w K mg (hidT sh.heap H) callerA [] sh H :=
    ⟨rfl, ⟨kin, nsx hns, ⟨mb, nsx hb, hbb⟩, by obtain ⟨mc, h1, h2⟩ := hlim; exact ⟨mc, nsx h1, h2⟩⟩, fun b o h => of_hidT h, Nat.le_of_eq (hidT_size _ _), trivial, fun b z => (by cases z), hok, .of_eq hgn⟩
  refine codeAny_mono ((F _ kin (nsx hns)).run callerA [] sh H ⟨[.ref a], []⟩ [.ref a] [.ref a] _ _ rfl hr e0 (hbind sh (.ref a)) (.cons rfl .nil) (hsp H hS)) fun r s' h => ?_
  match r, h with
  | .error e, h => exact (hCX H e s' h).elim
  | .ok .next, h => exact h.elim
  | .ok .brk, h => exact h.elim
  | .ok .cont, h => exact h.elim
  | .ok (.ret u), h =>
    obtain ⟨v, H', os, bare, un, hok', ru, q⟩ := h
    obtain rfl : v = .bl true := q
    obtain rfl : u = Value.bool true := ru
    refine ⟨rfl, OldK.of_keep fun b o h => ?_, os, bare⟩
    cases hb' : H b with
    | none => exact un.keep b o h hb' (fun z => by cases z) (fun z => by cases z)
    | some uu =>
      have hb2 := hb'
      rw [← hH] at hb2
      obtain ⟨_, _, rfl⟩ := scr_at hb2
      obtain ⟨h1, _⟩ := hok b _ hb'
      obtain ⟨h2, _⟩ := hok' b _ (un.frzs b _ _ hb')
      rw [h] at h1
      cases h1
      exact h2
theorem walk_ofClr {l : PySem.W.OpenLaw} {n k : Nat} {q : Program} {loose : List Str} {XP : (Str → Option Value) → Heap → Prop} {YP : World → Heap → Prop} {d : DefRec} {K : Params → PySem.W.Frag} {CX : World → CXT} {sp : World → Sp} {x : Str}
    (hn : l.most = some n) (hn2 : n ≤ sizeLine) (hdf : d.params.defaults = []) (hr : Room k callerA) (hY : ∀ (w : World) (h : Heap), YP w h → (K w.params).In h)
    (F : ∀ (w : World) (mg : Str → Option Value) (fa : Addr) (h : Heap), (K w.params).In h → h.Ns mainGlobals mg → mg d.name = some (.ref fa) →
      ∃ fd : FuncData, (∀ (s : Shared) (u : Value), BindsTo s fd ⟨[u], []⟩ [(x, u)]) ∧ ∀ base : Heap, (K w.params).In base → base.Ns mainGlobals mg → FnClr l.prog w (K w.params) mg base (CX w) k fa fd [x] (sp w))
    (hsp : ∀ (w : World) (H : Hp) (a : Addr) (ns : List Int), ns.length ≤ n → SqL (K w.params) H a (ns.map V.int) → sp w [.ref a] H (fun v _ => v = .bl true) fun _ _ _ => False)
    (hCX : ∀ (w : World) (H : Hp) (s : Shared) (e : Value) (s' : Shared), CX w [] H s (fun _ _ _ => False) e s' → False) :
    PySem.W.WalkO q loose XP YP l.row.toRowW d [] (fun f vs => PySem.call f vs) := by
  refine Att.attach_call hn hdf fun w s0 sh mg mb fa o pm cd doc a vs ns G Y ho hd hcd hmg hobj hints hlen hgn => ?_
  obtain ⟨fd, hb, hF⟩ := F w mg fa _ (hY w _ Y) G.T.g hmg
  exact law_callClr (hY w _ Y) G.T.g G.T.b G.T.builtins G.T.nolimit hgn hobj hints (Nat.le_trans hlen hn2) hr hF hb (fun H hS => hsp w H a ns hlen hS) fun H e s' => hCX w H sh e s'
end L2

set_option Elab.async false
set_option maxRecDepth 100000
set_option maxHeartbeats 4000000
namespace K02
open PySem PySem.Spec PyProof.Rows L2
def top (i : Nat) : Stmt := PySem.Challenge.pw_wholeline_k03_books_refused.main.body.getD i (.Pass ⟨0, 0, 0, 0⟩)
abbrev s_BadPart_init : Stmt := inClass (top 3) 0
abbrev nm_BadPart_init : List Str := ["self", "part"]
abbrev pm_BadPart_init : List Str := ["self", "part"]
theorem sc_BadPart_init : FnScope nm_BadPart_init pm_BadPart_init (defScope s_BadPart_init) := ⟨rfl, rfl, rfl, by decide +kernel, rfl, by decide +kernel, by decide +kernel⟩

abbrev s_BadName_init : Stmt := inClass (top 4) 0
abbrev nm_BadName_init : List Str := ["self", "name"]
abbrev pm_BadName_init : List Str := ["self", "name"]
theorem sc_BadName_init : FnScope nm_BadName_init pm_BadName_init (defScope s_BadName_init) := ⟨rfl, rfl, rfl, by decide +kernel, rfl, by decide +kernel, by decide +kernel⟩

abbrev s_BadHead_init : Stmt := inClass (top 5) 0
abbrev nm_BadHead_init : List Str := ["self", "index"]
abbrev pm_BadHead_init : List Str := ["self", "index"]
theorem sc_BadHead_init : FnScope nm_BadHead_init pm_BadHead_init (defScope s_BadHead_init) := ⟨rfl, rfl, rfl, by decide +kernel, rfl, by decide +kernel, by decide +kernel⟩

abbrev s_BadWord_init : Stmt := inClass (top 6) 0
abbrev nm_BadWord_init : List Str := ["self", "word"]
abbrev pm_BadWord_init : List Str := ["self", "word"]
theorem sc_BadWord_init : FnScope nm_BadWord_init pm_BadWord_init (defScope s_BadWord_init) := ⟨rfl, rfl, rfl, by decide +kernel, rfl, by decide +kernel, by decide +kernel⟩

abbrev s_BadWords_init : Stmt := inClass (top 7) 0
abbrev nm_BadWords_init : List Str := ["self", "index"]
abbrev pm_BadWords_init : List Str := ["self", "index"]
theorem sc_BadWords_init : FnScope nm_BadWords_init pm_BadWords_init (defScope s_BadWords_init) := ⟨rfl, rfl, rfl, by decide +kernel, rfl, by decide +kernel, by decide +kernel⟩

abbrev s_is_integer : Stmt := top 10
abbrev nm_is_integer : List Str := ["value"]
abbrev pm_is_integer : List Str := ["value"]
theorem sc_is_integer : FnScope nm_is_integer pm_is_integer (defScope s_is_integer) := ⟨rfl, rfl, rfl, by decide +kernel, rfl, by decide +kernel, by decide +kernel⟩

abbrev s_is_between : Stmt := top 11
abbrev nm_is_between : List Str := ["value", "low", "high"]
abbrev pm_is_between : List Str := ["value", "low", "high"]
theorem sc_is_between : FnScope nm_is_between pm_is_between (defScope s_is_between) := ⟨rfl, rfl, rfl, by decide +kernel, rfl, by decide +kernel, by decide +kernel⟩

abbrev s_is_index : Stmt := top 12
abbrev nm_is_index : List Str := ["value", "many"]
abbrev pm_is_index : List Str := ["value", "many"]
theorem sc_is_index : FnScope nm_is_index pm_is_index (defScope s_is_index) := ⟨rfl, rfl, rfl, by decide +kernel, rfl, by decide +kernel, by decide +kernel⟩

abbrev s_is_list : Stmt := top 13
abbrev nm_is_list : List Str := ["value"]
abbrev pm_is_list : List Str := ["value"]
theorem sc_is_list : FnScope nm_is_list pm_is_list (defScope s_is_list) := ⟨rfl, rfl, rfl, by decide +kernel, rfl, by decide +kernel, by decide +kernel⟩

abbrev s_is_name : Stmt := top 14
abbrev nm_is_name : List Str := ["value", "sign"]
abbrev pm_is_name : List Str := ["value"]
theorem sc_is_name : FnScope nm_is_name pm_is_name (defScope s_is_name) := ⟨rfl, rfl, rfl, by decide +kernel, rfl, by decide +kernel, by decide +kernel⟩

abbrev s_is_tuple_of : Stmt := top 15
abbrev nm_is_tuple_of : List Str := ["value", "many"]
abbrev pm_is_tuple_of : List Str := ["value", "many"]
theorem sc_is_tuple_of : FnScope nm_is_tuple_of pm_is_tuple_of (defScope s_is_tuple_of) := ⟨rfl, rfl, rfl, by decide +kernel, rfl, by decide +kernel, by decide +kernel⟩

abbrev s_is_told_by : Stmt := top 16
abbrev nm_is_told_by : List Str := ["value", "word", "many"]
abbrev pm_is_told_by : List Str := ["value", "word", "many"]
theorem sc_is_told_by : FnScope nm_is_told_by pm_is_told_by (defScope s_is_told_by) := ⟨rfl, rfl, rfl, by decide +kernel, rfl, by decide +kernel, by decide +kernel⟩

abbrev s_check_heads : Stmt := top 18
abbrev nm_check_heads : List Str := ["heads", "index", "head"]
abbrev pm_check_heads : List Str := ["heads"]
theorem sc_check_heads : FnScope nm_check_heads pm_check_heads (defScope s_check_heads) := ⟨rfl, rfl, rfl, by decide +kernel, rfl, by decide +kernel, by decide +kernel⟩

abbrev s_is_word : Stmt := top 21
abbrev nm_is_word : List Str := ["value"]
abbrev pm_is_word : List Str := ["value"]
theorem sc_is_word : FnScope nm_is_word pm_is_word (defScope s_is_word) := ⟨rfl, rfl, rfl, by decide +kernel, rfl, by decide +kernel, by decide +kernel⟩

abbrev s_check_places : Stmt := top 22
abbrev nm_check_places : List Str := ["places"]
abbrev pm_check_places : List Str := ["places"]
theorem sc_check_places : FnScope nm_check_places pm_check_places (defScope s_check_places) := ⟨rfl, rfl, rfl, by decide +kernel, rfl, by decide +kernel, by decide +kernel⟩

abbrev s_next_of : Stmt := top 23
abbrev nm_next_of : List Str := ["slots", "order"]
abbrev pm_next_of : List Str := ["slots", "order"]
theorem sc_next_of : FnScope nm_next_of pm_next_of (defScope s_next_of) := ⟨rfl, rfl, rfl, by decide +kernel, rfl, by decide +kernel, by decide +kernel⟩

abbrev s_slots_behind : Stmt := top 24
abbrev nm_slots_behind : List Str := ["places", "uses", "slots", "order", "head", "place", "old"]
abbrev pm_slots_behind : List Str := ["places", "uses"]
theorem sc_slots_behind : FnScope nm_slots_behind pm_slots_behind (defScope s_slots_behind) := ⟨rfl, rfl, rfl, by decide +kernel, rfl, by decide +kernel, by decide +kernel⟩

abbrev s_Book_init : Stmt := inClass (top 25) 0
abbrev nm_Book_init : List Str := ["self", "places", "uses", "slots", "order"]
abbrev pm_Book_init : List Str := ["self", "places", "uses"]
theorem sc_Book_init : FnScope nm_Book_init pm_Book_init (defScope s_Book_init) := ⟨rfl, rfl, rfl, by decide +kernel, rfl, by decide +kernel, by decide +kernel⟩

abbrev s_Book_held : Stmt := inClass (top 25) 1
abbrev nm_Book_held : List Str := ["self"]
abbrev pm_Book_held : List Str := ["self"]
theorem sc_Book_held : FnScope nm_Book_held pm_Book_held (defScope s_Book_held) := ⟨rfl, rfl, rfl, by decide +kernel, rfl, by decide +kernel, by decide +kernel⟩

abbrev s_Book_oldest_first : Stmt := inClass (top 25) 2
abbrev nm_Book_oldest_first : List Str := ["self"]
abbrev pm_Book_oldest_first : List Str := ["self"]
theorem sc_Book_oldest_first : FnScope nm_Book_oldest_first pm_Book_oldest_first (defScope s_Book_oldest_first) := ⟨rfl, rfl, rfl, by decide +kernel, rfl, by decide +kernel, by decide +kernel⟩

abbrev s_Book_place_of : Stmt := inClass (top 25) 3
abbrev nm_Book_place_of : List Str := ["self", "head"]
abbrev pm_Book_place_of : List Str := ["self", "head"]
theorem sc_Book_place_of : FnScope nm_Book_place_of pm_Book_place_of (defScope s_Book_place_of) := ⟨rfl, rfl, rfl, by decide +kernel, rfl, by decide +kernel, by decide +kernel⟩

abbrev s_Book_used : Stmt := inClass (top 25) 5
abbrev nm_Book_used : List Str := ["self", "head", "written", "used_again", "old", "place"]
abbrev pm_Book_used : List Str := ["self", "head"]
theorem sc_Book_used : FnScope nm_Book_used pm_Book_used (defScope s_Book_used) := ⟨rfl, rfl, rfl, by decide +kernel, rfl, by decide +kernel, by decide +kernel⟩

abbrev s_Book_word_for : Stmt := inClass (top 25) 6
abbrev nm_Book_word_for : List Str := ["self", "head", "place"]
abbrev pm_Book_word_for : List Str := ["self", "head"]
theorem sc_Book_word_for : FnScope nm_Book_word_for pm_Book_word_for (defScope s_Book_word_for) := ⟨rfl, rfl, rfl, by decide +kernel, rfl, by decide +kernel, by decide +kernel⟩

abbrev s_Book_head_for : Stmt := inClass (top 25) 7
abbrev nm_Book_head_for : List Str := ["self", "word", "head"]
abbrev pm_Book_head_for : List Str := ["self", "word"]
theorem sc_Book_head_for : FnScope nm_Book_head_for pm_Book_head_for (defScope s_Book_head_for) := ⟨rfl, rfl, rfl, by decide +kernel, rfl, by decide +kernel, by decide +kernel⟩

abbrev s_Book_contains : Stmt := inClass (top 25) 8
abbrev nm_Book_contains : List Str := ["self", "head"]
abbrev pm_Book_contains : List Str := ["self", "head"]
theorem sc_Book_contains : FnScope nm_Book_contains pm_Book_contains (defScope s_Book_contains) := ⟨rfl, rfl, rfl, by decide +kernel, rfl, by decide +kernel, by decide +kernel⟩

abbrev s_Book_len : Stmt := inClass (top 25) 9
abbrev nm_Book_len : List Str := ["self"]
abbrev pm_Book_len : List Str := ["self"]
theorem sc_Book_len : FnScope nm_Book_len pm_Book_len (defScope s_Book_len) := ⟨rfl, rfl, rfl, by decide +kernel, rfl, by decide +kernel, by decide +kernel⟩

abbrev s_Book_eq : Stmt := inClass (top 25) 10
abbrev nm_Book_eq : List Str := ["self", "other"]
abbrev pm_Book_eq : List Str := ["self", "other"]
theorem sc_Book_eq : FnScope nm_Book_eq pm_Book_eq (defScope s_Book_eq) := ⟨rfl, rfl, rfl, by decide +kernel, rfl, by decide +kernel, by decide +kernel⟩

abbrev s_read_head : Stmt := top 26
abbrev nm_read_head : List Str := ["book", "word"]
abbrev pm_read_head : List Str := ["book", "word"]
theorem sc_read_head : FnScope nm_read_head pm_read_head (defScope s_read_head) := ⟨rfl, rfl, rfl, by decide +kernel, rfl, by decide +kernel, by decide +kernel⟩

abbrev s_check_book : Stmt := top 27
abbrev nm_check_book : List Str := ["book"]
abbrev pm_check_book : List Str := ["book"]
theorem sc_check_book : FnScope nm_check_book pm_check_book (defScope s_check_book) := ⟨rfl, rfl, rfl, by decide +kernel, rfl, by decide +kernel, by decide +kernel⟩

abbrev s_write_heads : Stmt := top 28
abbrev nm_write_heads : List Str := ["book", "heads", "words", "head"]
abbrev pm_write_heads : List Str := ["book", "heads"]
theorem sc_write_heads : FnScope nm_write_heads pm_write_heads (defScope s_write_heads) := ⟨rfl, rfl, rfl, by decide +kernel, rfl, by decide +kernel, by decide +kernel⟩

abbrev s_read_words : Stmt := top 29
abbrev nm_read_words : List Str := ["book", "words", "heads", "index", "word", "head"]
abbrev pm_read_words : List Str := ["book", "words"]
theorem sc_read_words : FnScope nm_read_words pm_read_words (defScope s_read_words) := ⟨rfl, rfl, rfl, by decide +kernel, rfl, by decide +kernel, by decide +kernel⟩

abbrev s_check_pair : Stmt := top 30
abbrev nm_check_pair : List Str := ["one", "other"]
abbrev pm_check_pair : List Str := ["one", "other"]
theorem sc_check_pair : FnScope nm_check_pair pm_check_pair (defScope s_check_pair) := ⟨rfl, rfl, rfl, by decide +kernel, rfl, by decide +kernel, by decide +kernel⟩

abbrev s_parting_words : Stmt := top 31
abbrev nm_parting_words : List Str := ["one", "other", "place", "pairs", "same", "elsewhere"]
abbrev pm_parting_words : List Str := ["one", "other"]
theorem sc_parting_words : FnScope nm_parting_words pm_parting_words (defScope s_parting_words) := ⟨rfl, rfl, rfl, by decide +kernel, rfl, by decide +kernel, by decide +kernel⟩

abbrev s_overwriting_words : Stmt := top 32
abbrev nm_overwriting_words : List Str := ["book", "many", "fresh", "blank", "sign", "name"]
abbrev pm_overwriting_words : List Str := ["book", "many"]
theorem sc_overwriting_words : FnScope nm_overwriting_words pm_overwriting_words (defScope s_overwriting_words) := ⟨rfl, rfl, rfl, by decide +kernel, rfl, by decide +kernel, by decide +kernel⟩

abbrev s_is_parting : Stmt := top 33
abbrev nm_is_parting : List Str := ["one", "other", "value", "word", "head"]
abbrev pm_is_parting : List Str := ["one", "other", "value"]
theorem sc_is_parting : FnScope nm_is_parting pm_is_parting (defScope s_is_parting) := ⟨rfl, rfl, rfl, by decide +kernel, rfl, by decide +kernel, by decide +kernel⟩

abbrev s__law_pool : Stmt := top 35
abbrev nm__law_pool : List Str := ["_law_script", "_law_k", "_law_cell", "_law_size", "_law_mixed"]
abbrev pm__law_pool : List Str := ["_law_script", "_law_k"]
theorem sc__law_pool : FnScope nm__law_pool pm__law_pool (defScope s__law_pool) := ⟨rfl, rfl, rfl, by decide +kernel, rfl, by decide +kernel, by decide +kernel⟩

abbrev s__law_draw : Stmt := top 36
abbrev nm__law_draw : List Str := ["_law_pool_here", "_law_many", "_law_found"]
abbrev pm__law_draw : List Str := ["_law_pool_here", "_law_many"]
theorem sc__law_draw : FnScope nm__law_draw pm__law_draw (defScope s__law_draw) := ⟨rfl, rfl, rfl, by decide +kernel, rfl, by decide +kernel, by decide +kernel⟩

abbrev s__law_pick : Stmt := top 37
abbrev nm__law_pick : List Str := ["_law_pool_here", "_law_row"]
abbrev pm__law_pick : List Str := ["_law_pool_here", "_law_row"]
theorem sc__law_pick : FnScope nm__law_pick pm__law_pick (defScope s__law_pick) := ⟨rfl, rfl, rfl, by decide +kernel, rfl, by decide +kernel, by decide +kernel⟩

abbrev s__law_heads : Stmt := top 38
abbrev nm__law_heads : List Str := ["_law_pool_here", "_law_many", "_law_names", "_law_turn"]
abbrev pm__law_heads : List Str := ["_law_pool_here", "_law_many", "_law_names"]
theorem sc__law_heads : FnScope nm__law_heads pm__law_heads (defScope s__law_heads) := ⟨rfl, rfl, rfl, by decide +kernel, rfl, by decide +kernel, by decide +kernel⟩

abbrev s__law_called : Stmt := top 39
abbrev nm__law_called : List Str := ["_law_door", "_law_one", "_law_other"]
abbrev pm__law_called : List Str := ["_law_door", "_law_one", "_law_other"]
theorem sc__law_called : FnScope nm__law_called pm__law_called (defScope s__law_called) := ⟨rfl, rfl, rfl, by decide +kernel, rfl, by decide +kernel, by decide +kernel⟩

abbrev s__law_refused : Stmt := top 40
abbrev nm__law_refused : List Str := ["_law_door", "_law_one", "_law_other", "e"]
abbrev pm__law_refused : List Str := ["_law_door", "_law_one", "_law_other"]
theorem sc__law_refused : FnScope nm__law_refused pm__law_refused (defScope s__law_refused) := ⟨rfl, rfl, rfl, by decide +kernel, rfl, by decide +kernel, by decide +kernel⟩

abbrev s__law_words_refused : Stmt := top 41
abbrev nm__law_words_refused : List Str := ["_law_book", "_law_places", "_law_heads_here", "_law_odd", "_law_place", "_law_blank"]
abbrev pm__law_words_refused : List Str := ["_law_book", "_law_places", "_law_heads_here"]
theorem sc__law_words_refused : FnScope nm__law_words_refused pm__law_words_refused (defScope s__law_words_refused) := ⟨rfl, rfl, rfl, by decide +kernel, rfl, by decide +kernel, by decide +kernel⟩

abbrev s_law : Stmt := top 42
abbrev nm_law : List Str := ["_law_script", "_law_pool_here", "_law_places", "_law_heads_here", "_law_book", "_law_names", "_law_odd", "_law_door"]
abbrev pm_law : List Str := ["_law_script"]
theorem sc_law : FnScope nm_law pm_law (defScope s_law) := ⟨rfl, rfl, rfl, by decide +kernel, rfl, by decide +kernel, by decide +kernel⟩

structure Ad where
  (BadPart BadName BadHead BadWord BadWords WholeError Book T0 : Addr)
structure Txt (K : PySem.W.Frag) (mg : Str → Option Value) (A : Ad) : Prop where
  n_isinstance : mg "isinstance" = none
  n_int : mg "int" = none
  n_bool : mg "bool" = none
  n_str : mg "str" = none
  n_list : mg "list" = none
  n_tuple : mg "tuple" = none
  n_len : mg "len" = none
  n_range : mg "range" = none
  n_enumerate : mg "enumerate" = none
  n_all : mg "all" = none
  n_abs : mg "abs" = none
  n_sum : mg "sum" = none
  n_repr : mg "repr" = none
  n_zip : mg "zip" = none
  g_MOST_PLACES : ∃ t, mg "MOST_PLACES" = some (.int 4 t)
  g_ALPHABET : ∃ t, mg "ALPHABET" = some (.str "abcdefghijklmnopqrstuvwxyz" t)
  Book : ClsX K mg "Book" A.Book
  b_places : NoAttr K A.Book "places"
  b_slots : NoAttr K A.Book "slots"
  b_order : NoAttr K A.Book "order"
  BadPart : XAt K mg "BadPart" "part" A.BadPart s_BadPart_init "BadPart.__init__"
  BadName : XAt K mg "BadName" "name" A.BadName s_BadName_init "BadName.__init__"
  BadHead : XAt K mg "BadHead" "index" A.BadHead s_BadHead_init "BadHead.__init__"
  BadWord : XAt K mg "BadWord" "word" A.BadWord s_BadWord_init "BadWord.__init__"
  BadWords : XAt K mg "BadWords" "index" A.BadWords s_BadWords_init "BadWords.__init__"
  x_pp : PySem.W.exmOne K (.ref A.BadPart) (.ref A.BadPart) = some true
  x_hp : PySem.W.exmOne K (.ref A.BadHead) (.ref A.BadPart) = some false
  x_hh : PySem.W.exmOne K (.ref A.BadHead) (.ref A.BadHead) = some true
  x_np : PySem.W.exmOne K (.ref A.BadName) (.ref A.BadPart) = some false
  x_nh : PySem.W.exmOne K (.ref A.BadName) (.ref A.BadHead) = some false
  x_nn : PySem.W.exmOne K (.ref A.BadName) (.ref A.BadName) = some true
  x_wp : PySem.W.exmOne K (.ref A.BadWord) (.ref A.BadPart) = some false
  x_wh : PySem.W.exmOne K (.ref A.BadWord) (.ref A.BadHead) = some false
  x_wn : PySem.W.exmOne K (.ref A.BadWord) (.ref A.BadName) = some false
  x_ww : PySem.W.exmOne K (.ref A.BadWord) (.ref A.BadWord) = some true
  x_sp : PySem.W.exmOne K (.ref A.BadWords) (.ref A.BadPart) = some false
  x_sh : PySem.W.exmOne K (.ref A.BadWords) (.ref A.BadHead) = some false
  x_sn : PySem.W.exmOne K (.ref A.BadWords) (.ref A.BadName) = some false
  x_sw : PySem.W.exmOne K (.ref A.BadWords) (.ref A.BadWord) = some false
  x_ss : PySem.W.exmOne K (.ref A.BadWords) (.ref A.BadWords) = some true
  t0 : ∀ H, SqT K H A.T0 []
theorem pe_gstr {X : Cx} {x : Str} {z : Str} {pos : Pos} (hm : ∃ t, X.mg x = some (.str z t)) (hg : Gl X x := by rfl) (hd : (x == ("__debug__" : Str)) = false := by decide) : PE X (.Name x pos) (tC (.str z)) := by
  obtain ⟨t, h⟩ := hm
  exact pe_glob hg h ⟨_, rfl⟩ hd
section
variable {P : Program} {w : World} {K : PySem.W.Frag} {mg : Str → Option Value} {base : Heap} {A : Ad}
theorem ok_xp {f : Addr} {fd : FuncData} (F : Fun K "__init__" "BadPart.__init__" s_BadPart_init f fd) (T : Txt K mg A) : FnOk P w K mg base CX0 1 f fd ["self", "part"] (spXI A.BadPart "part") := by
  refine F.ok sc_BadPart_init (fun vs H Q E h => ?_) (fun cdv A' outer s H vs Q E hr h => ?_)
  · obtain ⟨a, y, rfl, _⟩ := h
    rfl
  · obtain ⟨a, y, rfl, ha, q⟩ := h
    refine ⟨_, pss_one (ps_ost (pv 0) (pv 1)), ?_⟩
    exact ⟨_, rfl, _, rfl, a, A.BadPart, rfl, T.BadPart.ox, T.BadPart.noA, .inl ⟨ha, fun dx h1 h2 => q dx h1 h2⟩⟩
theorem ok_xn {f : Addr} {fd : FuncData} (F : Fun K "__init__" "BadName.__init__" s_BadName_init f fd) (T : Txt K mg A) : FnOk P w K mg base CX0 1 f fd ["self", "name"] (spXI A.BadName "name") := by
  refine F.ok sc_BadName_init (fun vs H Q E h => ?_) (fun cdv A' outer s H vs Q E hr h => ?_)
  · obtain ⟨a, y, rfl, _⟩ := h
    rfl
  · obtain ⟨a, y, rfl, ha, q⟩ := h
    refine ⟨_, pss_one (ps_ost (pv 0) (pv 1)), ?_⟩
    exact ⟨_, rfl, _, rfl, a, A.BadName, rfl, T.BadName.ox, T.BadName.noA, .inl ⟨ha, fun dx h1 h2 => q dx h1 h2⟩⟩
theorem ok_xh {f : Addr} {fd : FuncData} (F : Fun K "__init__" "BadHead.__init__" s_BadHead_init f fd) (T : Txt K mg A) : FnOk P w K mg base CX0 1 f fd ["self", "index"] (spXI A.BadHead "index") := by
  refine F.ok sc_BadHead_init (fun vs H Q E h => ?_) (fun cdv A' outer s H vs Q E hr h => ?_)
  · obtain ⟨a, y, rfl, _⟩ := h
    rfl
  · obtain ⟨a, y, rfl, ha, q⟩ := h
    refine ⟨_, pss_one (ps_ost (pv 0) (pv 1)), ?_⟩
    exact ⟨_, rfl, _, rfl, a, A.BadHead, rfl, T.BadHead.ox, T.BadHead.noA, .inl ⟨ha, fun dx h1 h2 => q dx h1 h2⟩⟩
theorem ok_x_BadWord {f : Addr} {fd : FuncData} (F : Fun K "__init__" "BadWord.__init__" s_BadWord_init f fd) (T : Txt K mg A) : FnOk P w K mg base CX0 1 f fd ["self", "word"] (spXI A.BadWord "word") := by
  refine F.ok sc_BadWord_init (fun vs H Q E h => ?_) (fun cdv A' outer s H vs Q E hr h => ?_)
  · obtain ⟨a, y, rfl, _⟩ := h
    rfl
  · obtain ⟨a, y, rfl, ha, q⟩ := h
    refine ⟨_, pss_one (ps_ost (pv 0) (pv 1)), ?_⟩
    exact ⟨_, rfl, _, rfl, a, A.BadWord, rfl, T.BadWord.ox, T.BadWord.noA, .inl ⟨ha, fun dx h1 h2 => q dx h1 h2⟩⟩
theorem ok_x_BadWords {f : Addr} {fd : FuncData} (F : Fun K "__init__" "BadWords.__init__" s_BadWords_init f fd) (T : Txt K mg A) : FnOk P w K mg base CX0 1 f fd ["self", "index"] (spXI A.BadWords "index") := by
  refine F.ok sc_BadWords_init (fun vs H Q E h => ?_) (fun cdv A' outer s H vs Q E hr h => ?_)
  · obtain ⟨a, y, rfl, _⟩ := h
    rfl
  · obtain ⟨a, y, rfl, ha, q⟩ := h
    refine ⟨_, pss_one (ps_ost (pv 0) (pv 1)), ?_⟩
    exact ⟨_, rfl, _, rfl, a, A.BadWords, rfl, T.BadWords.ox, T.BadWords.noA, .inl ⟨ha, fun dx h1 h2 => q dx h1 h2⟩⟩
/-! kinds, told by the data -/
theorem kd_str {d : PyData} : PySem.W.kitOne K (.type (tnD d)) (.type "str") = some (isStrD d) := by cases d <;> exact kit_ty (by dsimp only [tnD, isStrD]; decide +kernel)
def spInteger (K : PySem.W.Frag) : Sp := fun vs H Q _ => ∃ v d, vs = [v] ∧ Dp K H v d ∧ Q (.bl (isIntD d && !isBoolD d)) H
theorem ok_integer {f : Addr} {fd : FuncData} (F : Fun K "is_integer" "is_integer" s_is_integer f fd) (T : Txt K mg A) : FnOk P w K mg base CX0 1 f fd pm_is_integer (spInteger K) := by
  refine F.ok sc_is_integer (fun vs H Q E h => ?_) (fun cdv A' outer s H vs Q E hr h => ?_)
  · obtain ⟨v, k, rfl, _⟩ := h
    rfl
  · obtain ⟨v, d, rfl, hk, q⟩ := h
    refine ⟨_, pss_one (ps_ret (pe_and (pe_callB call_isi (by rfl) T.n_isinstance (by decide +kernel) (pa_cons (pv 0) (pa_cons (pe_bltn (v := .ty "int") (by rfl) T.n_int (by decide +kernel) rfl) pa_nil))) (pe_one (pe_not (pe_callB call_isi (by rfl) T.n_isinstance (by decide +kernel) (pa_cons (pv 0) (pa_cons (pe_bltn (v := .ty "bool") (by rfl) T.n_bool (by decide +kernel) rfl) pa_nil))))))), ?_⟩
    refine ⟨v, rfl, v, .ty "int", .type (tnD d), .type "int", isIntD d, rfl, .ty _, dp_ty hk, kd_int, _, rfl, ?_⟩
    cases h1 : isIntD d with
    | true =>
      rw [h1] at q
      exact iteT ⟨v, rfl, v, .ty "bool", .type (tnD d), .type "bool", isBoolD d, rfl, .ty _, dp_ty hk, kd_bool, _, rfl, q⟩
    | false =>
      rw [h1] at q
      exact iteF q
def spBetween (K : PySem.W.Frag) : Sp := fun vs H Q _ => ∃ v d a b, vs = [v, .int a, .int b] ∧ Dp K H v d ∧ Q (.bl (betD d a b)) H
theorem ok_between {f : Addr} {fd : FuncData} (F : Fun K "is_between" "is_between" s_is_between f fd) (O_is_integer : Own P w K mg base CX0 "is_integer" 1 pm_is_integer (spInteger K)) : FnOk P w K mg base CX0 2 f fd pm_is_between (spBetween K) := by
  refine F.ok sc_is_between (fun vs H Q E h => ?_) (fun cdv A' outer s H vs Q E hr h => ?_)
  · obtain ⟨v, k, a, b, rfl, _⟩ := h
    rfl
  · obtain ⟨v, d, a, b, rfl, hk, q⟩ := h
    refine ⟨_, pss_one (ps_ret (pe_and (pe_own O_is_integer (hr.mono (by decide)) pass0 (pa_cons (pv 0) pa_nil)) (pe_one (pe_chain op_le op_le (pv 1) (pv 0) (pv 2))))), ?_⟩
    refine ⟨v, rfl, v, d, rfl, hk, _, rfl, ?_⟩
    cases h1 : (isIntD d && !isBoolD d) with
    | true =>
      obtain ⟨n, rfl⟩ := int_yes h1
      obtain rfl := dp_int hk
      refine iteT ⟨_, rfl, _, rfl, _, _, rfl, rfl, _, rfl, ?_⟩
      rw [bet_int] at q
      cases h2 : decide (a ≤ n) with
      | true =>
        rw [h2] at q
        exact iteT ⟨_, rfl, _, _, rfl, rfl, q⟩
      | false =>
        rw [h2] at q
        exact iteF q
    | false =>
      rw [bet_not h1] at q
      exact iteF q
def spIndex (K : PySem.W.Frag) : Sp := fun vs H Q _ => ∃ v d n, vs = [v, .int n] ∧ Dp K H v d ∧ Q (.bl (betD d 0 (n - 1))) H
theorem ok_index {f : Addr} {fd : FuncData} (F : Fun K "is_index" "is_index" s_is_index f fd) (O_is_between : Own P w K mg base CX0 "is_between" 2 pm_is_between (spBetween K)) : FnOk P w K mg base CX0 3 f fd pm_is_index (spIndex K) := by
  refine F.ok sc_is_index (fun vs H Q E h => ?_) (fun cdv A' outer s H vs Q E hr h => ?_)
  · obtain ⟨_, _, _, rfl, _⟩ := h
    rfl
  · obtain ⟨v, d, n, rfl, hd, q⟩ := h
    refine ⟨_, pss_one (ps_ret (pe_own O_is_between (hr.mono (by decide)) pass0 (pa_cons (pv 0) (pa_cons (pe_int) (pa_cons (pe_op op_sub (pv 1) (pe_int)) pa_nil))))), ?_⟩
    exact ⟨v, rfl, _, rfl, _, _, rfl, rfl, v, d, 0, n - 1, rfl, hd, q⟩
def spIsList (K : PySem.W.Frag) : Sp := fun vs H Q _ => ∃ v t k, vs = [v] ∧ (∀ H', Ext H H' → TyX K H' v t) ∧ PySem.W.kitAny K t [.type "list", .type "tuple"] = some k ∧ ∀ H', Ext H H' → Q (.bl k) H'
theorem ok_isList {f : Addr} {fd : FuncData} (F : Fun K "is_list" "is_list" s_is_list f fd) (T : Txt K mg A) : FnOk P w K mg base CX0 1 f fd pm_is_list (spIsList K) := by
  refine F.ok sc_is_list (fun vs H Q E h => ?_) (fun cdv A' outer s H vs Q E hr h => ?_)
  · obtain ⟨v, t, k, rfl, _⟩ := h
    rfl
  · obtain ⟨v, t, k, rfl, hk, hs, q⟩ := h
    refine ⟨_, pss_one (ps_ret (pe_callB call_isiT (by rfl) T.n_isinstance (by decide +kernel) (pa_cons (pv 0) (pa_cons (pe_tup (pa_cons (pe_bltn (v := .ty "list") (by rfl) T.n_list (by decide +kernel) rfl) (pa_cons (pe_bltn (v := .ty "tuple") (by rfl) T.n_tuple (by decide +kernel) rfl) pa_nil))) pa_nil)))), ?_⟩
    refine ⟨v, rfl, by show 2 ≤ sizeLine; decide, fun p hp => ?_⟩
    exact ⟨v, p, [.ty "list", .ty "tuple"], t, [.type "list", .type "tuple"], k, rfl, upd_same, .cons (.ty _) (.cons (.ty _) .nil), hk _ (Ext.upd hp), hs, q _ (Ext.upd hp)⟩
theorem dp_lenD {H : Hp} {xs : List V} {ds : List PyData} {d : PyData} (ha : DpAll K H xs ds) (h : d = .list ds ∨ d = .tuple ds) : lenD d = xs.length := by
  rw [dps_len ha]
  rcases h with rfl | rfl <;> rfl
theorem dvi {a b : Int} : decide (V.int a = V.int b) = decide (a = b) := by simp
theorem dvs {a b : Str} : decide (V.str a = V.str b) = decide (a = b) := by simp
def spTupleOf (K : PySem.W.Frag) : Sp := fun vs H Q _ => ∃ v d a, vs = [v, .int a] ∧ Dp K H v d ∧ Q (.bl (isTupD d && decide ((lenD d : Int) = a))) H
theorem ok_tupleOf {f : Addr} {fd : FuncData} (F : Fun K "is_tuple_of" "is_tuple_of" s_is_tuple_of f fd) (T : Txt K mg A) : FnOk P w K mg base CX0 1 f fd pm_is_tuple_of (spTupleOf K) := by
  refine F.ok sc_is_tuple_of (fun vs H Q E h => ?_) (fun cdv A' outer s H vs Q E hr h => ?_)
  · obtain ⟨v, d, a, rfl, _⟩ := h
    rfl
  · obtain ⟨v, d, a, rfl, hk, q⟩ := h
    refine ⟨_, pss_one (ps_ret (pe_and (pe_callB call_isi (by rfl) T.n_isinstance (by decide +kernel) (pa_cons (pv 0) (pa_cons (pe_bltn (v := .ty "tuple") (by rfl) T.n_tuple (by decide +kernel) rfl) pa_nil))) (pe_one (pe_cmpR op_eq (pe_callB call_len_seq (by rfl) T.n_len (by decide +kernel) (pa_cons (pv 0) pa_nil)) (pv 1) (nomark _))))), ?_⟩
    refine ⟨v, rfl, v, .ty "tuple", .type (tnD d), .type "tuple", isTupD d, rfl, .ty _, dp_ty hk, kd_tup, _, rfl, ?_⟩
    cases h1 : isTupD d with
    | true =>
      rw [h1] at q
      obtain ⟨p, xs, ds, rfl, hx, ha, hd⟩ := dp_tup hk h1
      rw [dp_lenD ha (.inr hd)] at q
      refine iteT ⟨_, rfl, p, xs, rfl, .inr hx, _, rfl, rfl, ?_⟩
      show Q (.bl (decide (V.int (xs.length : Int) = V.int a))) H
      rw [dvi]
      exact q
    | false =>
      rw [h1] at q
      exact iteF q
/-! names -/
def inAl (c : Nat) : Bool := decide (c ∈ (("abcdefghijklmnopqrstuvwxyz" : Str)).cps.toList)
def nameS (s : Str) : Bool := (decide ((1 : Int) ≤ (s.length : Int)) && decide ((s.length : Int) ≤ 8)) && s.cps.toList.all inAl
def nameD : PyData → Bool | .str s => nameS s | _ => false
def SmD : PyData → Prop | .str s => s.length ≤ 1000 | _ => True
theorem small_sz {n : Nat} (h : n ≤ 2000) : n < sizeLine := Nat.lt_of_le_of_lt h (by decide)
theorem all_map {β : Type} {xs : List β} {f : β → Bool} : xs.map (fun x => V.bl (f x)) = (xs.map f).map V.bl := by
  rw [List.map_map]
  rfl
theorem all_id {β : Type} {xs : List β} {f : β → Bool} : (xs.map f).all id = xs.all f := by
  rw [List.all_map]
  rfl
def spName (K : PySem.W.Frag) : Sp := fun vs H Q _ => ∃ v d, vs = [v] ∧ Dp K H v d ∧ SmD d ∧ ∀ H', Ext H H' → Q (.bl (nameD d)) H'
theorem str_yes {H : Hp} {v : V} {d : PyData} (h : Dp K H v d) (hs : isStrD d = true) : ∃ s, d = .str s ∧ v = .str s := by
  cases h <;> first | exact ⟨_, rfl, rfl⟩ | cases hs
theorem ok_name {f : Addr} {fd : FuncData} (F : Fun K "is_name" "is_name" s_is_name f fd) (T : Txt K mg A) : FnOk P w K mg base CX0 1 f fd pm_is_name (spName K) := by
  refine F.ok sc_is_name (fun vs H Q E h => ?_) (fun cdv A' outer s H vs Q E hr h => ?_)
  · obtain ⟨_, _, rfl, _⟩ := h
    rfl
  · obtain ⟨v, d, rfl, hd, hsm, q⟩ := h
    refine ⟨_, pss_cons (ps_if (PW.pt (pw_or (pt_not (pt_val (pe_callB call_isi (by rfl) T.n_isinstance (by decide +kernel) (pa_cons (pv 0) (pa_cons (pe_bltn (v := .ty "str") (by rfl) T.n_str (by decide +kernel) rfl) pa_nil))))) (pw_or1 (pt_not (pt_chain op_le op_le (pe_int) (pe_callB call_len_str (by rfl) T.n_len (by decide +kernel) (pa_cons (pv 0) pa_nil)) (pe_int)))))) (pss_one (ps_ret (pe_bl))) (pss_nil))
      (pss_one (ps_ret (pe_callB (cr_all rfl) (by rfl) T.n_all (by decide +kernel) (pa_cons (pe_lc (own := [("sign", 1)]) (g := gName 1) (by rfl) sc_is_name.nd (pi_str (pv 0)) (blkOk_by (own := [("sign", 1)]) (N := nm_is_name) (sc := defScope s_is_name) (by decide +kernel)) (fun _ _ _ _ _ => pg_name (i := 1) sc_is_name.nd rfl (Or.inl rfl)) (fun s1 H1 C1 cl fp => pts_nil) (fun s1 H1 C1 cl fp => pe_cmpR op_in_sign (pv 1) (pe_gstr T.g_ALPHABET) (by with_unfolding_all rfl))) pa_nil)))), ?_⟩
    refine ⟨v, rfl, v, .ty "str", .type (tnD d), .type "str", isStrD d, rfl, .ty _, dp_ty hd, kd_str, _, rfl, ?_⟩
    cases h1 : isStrD d with
    | false =>
      have h := q H Ext.rfl'
      rw [show nameD d = false by cases d <;> first | rfl | cases h1] at h
      exact iteT h
    | true =>
      obtain ⟨z, rfl, rfl⟩ := str_yes hd h1
      have hz : z.length ≤ 1000 := hsm
      have hqn : ∀ H', Ext H H' → Q (.bl ((decide ((1 : Int) ≤ (z.length : Int)) && decide ((z.length : Int) ≤ 8)) && z.cps.toList.all inAl)) H' := q
      clear q
      refine iteF ⟨_, rfl, z, rfl, Nat.le_of_lt (small_sz (by omega)), _, _, rfl, rfl, _, rfl, ?_⟩
      cases h2 : decide ((1 : Int) ≤ (z.length : Int)) with
      | false =>
        have h := hqn H Ext.rfl'
        rw [h2] at h
        exact iteF ⟨_, rfl, iteT h⟩
      | true =>
        refine iteT ⟨_, _, rfl, rfl, _, rfl, ?_⟩
        cases h3 : decide ((z.length : Int) ≤ 8) with
        | false =>
          have h := hqn H Ext.rfl'
          rw [h2, h3] at h
          exact iteT h
        | true =>
          refine iteF ?_
          refine ⟨_, rfl, z, rfl, fun D hD => ?_⟩
          refine lc_it (walk_str (z := z)) (fun i H' => Ext H H' ∧ H' D = some (.lst ((((z.cps.toList.take i).map inAl)).map V.bl))) ⟨Ext.upd hD, upd_same⟩ (fun _ _ _ _ => True.intro) (fun i x H' H2 hi pv hy => ?_) (fun H' pv => ?_)
          · obtain ⟨e, hl⟩ := pv
            obtain ⟨rfl, c, hc, rfl⟩ := hy
            have hc' : z.cps.toList[i]? = some c := by rw [Array.getElem?_toList]; exact hc
            refine ⟨rfl, _, rfl, c, _, rfl, rfl, _, hl, small_sz ?_, ext_mut e hD, ?_⟩
            · rw [List.length_map, List.length_map, List.length_take]
              have : z.cps.toList.length = z.length := rfl
              omega
            · rw [upd_same, take_snoc hc', List.map_append, List.map_append]
              rfl
          · obtain ⟨e, hl⟩ := pv
            rw [List.take_of_length_le (by rw [Array.length_toList]; exact Nat.le_refl _)] at hl
            refine ⟨D, z.cps.toList.map inAl, rfl, SqL.of hl, ?_⟩
            have h := hqn H' e
            rw [h2, h3] at h
            rw [all_id]
            exact h
end
end K02

set_option Elab.async false
set_option maxRecDepth 100000
set_option maxHeartbeats 4000000
namespace K02
open PySem PySem.Spec PyProof.Rows L2
def sndD : PyData → PyData | .tuple (_ :: d :: _) => d | _ => .none
def toldD (d : PyData) (wd : Str) (m : Nat) : Bool := match d with
  | .tuple (.str s :: ds) => decide (ds.length + 1 = m) && decide (s = wd)
  | _ => false
def wordD (d : PyData) : Bool := if toldD d "short" 2 = true then betD (sndD d) 0 3 else toldD d "long" 2 && nameD (sndD d)
section
variable {P : Program} {w : World} {K : PySem.W.Frag} {mg : Str → Option Value} {base : Heap} {A : Ad}
def spTold (K : PySem.W.Frag) : Sp := fun vs H Q _ => ∃ (v : V) (d : PyData) (wd : Str) (m : Nat), vs = [v, .str wd, .int (m : Int)] ∧ Dp K H v d ∧ 1 ≤ m ∧ Q (.bl (toldD d wd m)) H
theorem told_no {d : PyData} {wd : Str} {m : Nat} (h : (isTupD d && decide ((lenD d : Int) = (m : Int))) = false) : toldD d wd m = false := by
  unfold toldD
  split
  · rename_i s ds
    rw [show decide (ds.length + 1 = m) = false from decide_eq_false fun e => by
      have z : decide (((ds.length + 1 : Nat) : Int) = (m : Int)) = false := h
      rw [decide_eq_true (by omega)] at z
      cases z]
    rfl
  · rfl
theorem ok_told {f : Addr} {fd : FuncData} (F : Fun K "is_told_by" "is_told_by" s_is_told_by f fd) (T : Txt K mg A) (O_is_tuple_of : Own P w K mg base CX0 "is_tuple_of" 1 pm_is_tuple_of (spTupleOf K)) : FnOk P w K mg base CX0 2 f fd pm_is_told_by (spTold K) := by
  refine F.ok sc_is_told_by (fun vs H Q E h => ?_) (fun cdv A' outer s H vs Q E hr h => ?_)
  · obtain ⟨_, _, _, _, rfl, _⟩ := h
    rfl
  · obtain ⟨v, d, wd, m, rfl, hd, hm, q⟩ := h
    refine ⟨_, pss_one (ps_ret (pe_and (pe_own O_is_tuple_of (hr.mono (by decide)) pass0 (pa_cons (pv 0) (pa_cons (pv 2) pa_nil))) (pe_and (pe_callB call_isi (by rfl) T.n_isinstance (by decide +kernel) (pa_cons (pe_ix ix_tup (pv 0) (pe_int) (fun _ _ => rfl)) (pa_cons (pe_bltn (v := .ty "str") (by rfl) T.n_str (by decide +kernel) rfl) pa_nil))) (pe_one (pe_cmpR op_eq (pe_ix ix_tup (pv 0) (pe_int) (fun _ _ => rfl)) (pv 1) (nomark _)))))), ?_⟩
    refine ⟨v, rfl, _, rfl, v, d, (m : Int), rfl, hd, _, rfl, ?_⟩
    cases h1 : (isTupD d && decide ((lenD d : Int) = (m : Int))) with
    | false =>
      rw [told_no h1] at q
      exact iteF q
    | true =>
      rw [Bool.and_eq_true, decide_eq_true_eq] at h1
      obtain ⟨p, xs, ds, rfl, hx, ha, rfl⟩ := dp_tup hd h1.1
      have hl : ds.length = m := by
        have z : ((ds.length : Nat) : Int) = (m : Int) := h1.2
        omega
      cases ha with
      | nil => exact absurd hl (by show ¬ (0 = m); omega)
      | @cons x0 xs' d0 ds' h0 ha' =>
        refine iteT ⟨_, rfl, p, _, 0, x0, rfl, rfl, hx, atI_nat (j := 0) rfl, x0, .ty "str", .type (tnD d0), .type "str", isStrD d0, rfl, .ty _, dp_ty h0, kd_str, _, rfl, ?_⟩
        cases h2 : isStrD d0 with
        | false =>
          have e : toldD (.tuple (d0 :: ds')) wd m = false := by
            cases d0 <;> first | rfl | cases h2
          rw [e] at q
          exact iteF q
        | true =>
          obtain ⟨z, rfl, rfl⟩ := str_yes h0 h2
          refine iteT ⟨_, rfl, p, _, 0, .str z, rfl, rfl, hx, atI_nat (j := 0) rfl, _, rfl, rfl, ?_⟩
          rw [dvs]
          have e : toldD (.tuple (.str z :: ds')) wd m = decide (z = wd) := by
            show (decide (ds'.length + 1 = m) && decide (z = wd)) = _
            rw [decide_eq_true (show ds'.length + 1 = m from hl)]
            rfl
          rw [e] at q
          exact q
theorem told_yes {H : Hp} {v : V} {d : PyData} {wd : Str} (hd : Dp K H v d) (h : toldD d wd 2 = true) : ∃ p y d1, v = .ref p ∧ SqT K H p [.str wd, y] ∧ Dp K H y d1 ∧ d = .tuple [.str wd, d1] := by
  unfold toldD at h
  split at h
  · rename_i s ds
    rw [Bool.and_eq_true, decide_eq_true_eq, decide_eq_true_eq] at h
    obtain ⟨h1, rfl⟩ := h
    obtain ⟨p, xs, ds', rfl, hx, ha, e⟩ := dp_tup hd rfl
    cases e
    match ds, h1, ha with
    | [d1], _, ha =>
      cases ha with
      | cons a1 ha =>
        cases ha with
        | cons a2 ha =>
          cases ha
          cases a1
          exact ⟨p, _, d1, rfl, hx, a2, rfl⟩
  · cases h
def spWord (K : PySem.W.Frag) : Sp := fun vs H Q _ => ∃ (v : V) (d : PyData), vs = [v] ∧ Dp K H v d ∧ SmD (sndD d) ∧ ∀ H', Ext H H' → Q (.bl (wordD d)) H'
theorem ok_word {f : Addr} {fd : FuncData} (F : Fun K "is_word" "is_word" s_is_word f fd) (T : Txt K mg A) (O_is_told_by : Own P w K mg base CX0 "is_told_by" 2 pm_is_told_by (spTold K)) (O_is_index : Own P w K mg base CX0 "is_index" 3 pm_is_index (spIndex K)) (O_is_name : Own P w K mg base CX0 "is_name" 1 pm_is_name (spName K)) : FnOk P w K mg base CX0 4 f fd pm_is_word (spWord K) := by
  refine F.ok sc_is_word (fun vs H Q E h => ?_) (fun cdv A' outer s H vs Q E hr h => ?_)
  · obtain ⟨_, _, rfl, _⟩ := h
    rfl
  · obtain ⟨v, d, rfl, hd, hsm, q⟩ := h
    refine ⟨_, pss_cons (ps_if (pt_val (pe_own O_is_told_by (hr.mono (by decide)) pass0 (pa_cons (pv 0) (pa_cons (pe_str) (pa_cons (pe_int) pa_nil))))) (pss_one (ps_ret (pe_own O_is_index (hr.mono (by decide)) pass0 (pa_cons (pe_ix ix_tup (pv 0) (pe_int) (fun _ _ => rfl)) (pa_cons (pe_gint T.g_MOST_PLACES) pa_nil))))) (pss_nil))
      (pss_one (ps_ret (pe_and (pe_own O_is_told_by (hr.mono (by decide)) pass0 (pa_cons (pv 0) (pa_cons (pe_str) (pa_cons (pe_int) pa_nil)))) (pe_one (pe_own O_is_name (hr.mono (by decide)) pass0 (pa_cons (pe_ix ix_tup (pv 0) (pe_int) (fun _ _ => rfl)) pa_nil)))))), ?_⟩
    refine ⟨v, rfl, v, d, "short", 2, rfl, hd, by decide, _, rfl, ?_⟩
    unfold wordD at q
    cases h1 : toldD d "short" 2 with
    | true =>
      obtain ⟨p, y, d1, rfl, hx, hy, rfl⟩ := told_yes hd h1
      have h := q H Ext.rfl'
      rw [h1, if_pos rfl] at h
      exact iteT ⟨_, rfl, p, _, 1, y, rfl, rfl, hx, rfl, y, d1, 4, rfl, hy, h⟩
    | false =>
      rw [h1] at q
      refine iteF ⟨v, rfl, v, d, "long", 2, rfl, hd, by decide, _, rfl, ?_⟩
      cases h2 : toldD d "long" 2 with
      | false =>
        have h := q H Ext.rfl'
        rw [if_neg (by decide), h2] at h
        exact iteF h
      | true =>
        obtain ⟨p, y, d1, rfl, hx, hy, rfl⟩ := told_yes hd h2
        refine iteT ⟨_, rfl, p, _, 1, y, rfl, rfl, hx, rfl, y, d1, rfl, hy, hsm, fun H' e => ?_⟩
        have h := q H' e
        rw [if_neg (by decide), h2] at h
        exact h
/-! heads -/
def itemsD : PyData → Option (List PyData) | .list ds => some ds | .tuple ds => some ds | _ => none
def ErrH (A : Ad) (E : XK) (H : Hp) (v : V) : Prop := ∀ H', Ext H H' → ∀ e, H' e = none → E (.ref A.BadHead) (some e) (upd H' e (.xd [("index", v)]))
def badAt (ds : List PyData) : Option Nat := ds.findIdx? fun d => !nameD d
theorem find_at {ds : List PyData} {f : PyData → Bool} {i : Nat} {d : PyData} (h0 : ∀ (j : Nat) (d : PyData), j < i → ds[j]? = some d → f d = false) (hd : ds[i]? = some d) (h : f d = true) : ds.findIdx? f = some i := by
  induction ds generalizing i with
  | nil => cases hd
  | cons x xs ih =>
    rw [List.findIdx?_cons]
    cases i with
    | zero =>
      cases hd
      rw [h]
      rfl
    | succ i =>
      rw [h0 0 x (Nat.succ_pos _) rfl]
      have z := ih (i := i) (fun j d hj hd => h0 (j + 1) d (Nat.succ_lt_succ hj) hd) hd
      rw [z]
      rfl
theorem find_no {ds : List PyData} {f : PyData → Bool} (h0 : ∀ (j : Nat) (d : PyData), ds[j]? = some d → f d = false) : ds.findIdx? f = none := by
  rw [List.findIdx?_eq_none_iff]
  intro x hx
  obtain ⟨j, hj⟩ := List.mem_iff_getElem?.mp hx
  exact h0 j x hj
def spHeads (K : PySem.W.Frag) (A : Ad) : Sp := fun vs H Q E => ∃ (v : V) (d : PyData), vs = [v] ∧ Dp K H v d ∧ (∀ ds, itemsD d = some ds → ∀ x ∈ ds, SmD x) ∧ (isSeqD d = false → ErrH A E H .non) ∧ (∀ ds i, itemsD d = some ds → badAt ds = some i → ErrH A E H (.int (i : Nat))) ∧
  (∀ ds, itemsD d = some ds → badAt ds = none → ∀ H', Ext H H' → Q .non H')
theorem ok_heads {f : Addr} {fd : FuncData} (F : Fun K "check_heads" "check_heads" s_check_heads f fd) (T : Txt K mg A) (O_is_list : Own P w K mg base CX0 "is_list" 1 pm_is_list (spIsList K)) (O_is_name : Own P w K mg base CX0 "is_name" 1 pm_is_name (spName K)) (X_BadHead : XCls P w K mg base "BadHead" "index" A.BadHead) : FnOk P w K mg base (L2.CX P w) 3 f fd pm_check_heads (spHeads K A) := by
  refine F.okX sc_check_heads (fun vs H Q E h => ?_) (fun cdv A' outer s H vs Q E hr h => ?_)
  · obtain ⟨_, _, rfl, _⟩ := h
    rfl
  · obtain ⟨v, d, rfl, hd, hsm, e1, e2, k⟩ := h
    refine ⟨_, pss_cons (ps_if (pt_not (pt_val (pe_own O_is_list (hr.mono (by decide)) pass0 (pa_cons (pv 0) pa_nil)))) (pss_one (ps_raise rfl (takes_of rfl rfl rfl rfl) (pmk_X X_BadHead (hr.mono (by decide)) (pe_non) rfl))) (pss_nil))
      (pss_one (ps_for (passes_of rfl) rfl (pi_enSq rfl T.n_enumerate (pa_cons (pv 0) pa_nil)) (pg_tup rfl (pgs_cons (pg_name (i := 1) sc_check_heads.nd rfl (Or.inl rfl)) (pgs_cons (pg_name (i := 2) sc_check_heads.nd rfl (Or.inl rfl)) (pgs_nil)))) (pss_one (ps_if (pt_not (pt_val (pe_own O_is_name (hr.mono (by decide)) pass0 (pa_cons (pv 2) pa_nil)))) (pss_one (ps_raise rfl (takes_of rfl rfl rfl rfl) (pmk_X X_BadHead (hr.mono (by decide)) (pv 1) rfl))) (pss_nil))))), ?_⟩
    refine ⟨v, rfl, v, .type (tnD d), isSeqD d, rfl, fun H' e => dp_ty (dp_ext e _ _ hd), by rw [kd_seq], fun H1 x1 => ⟨_, rfl, ?_⟩⟩
    cases h1 : isSeqD d with
    | false => exact iteT (mkX_fin fun e he => e1 h1 _ x1 e he)
    | true =>
      refine iteF ?_
      obtain ⟨a, xs, ds, rfl, hx, ha, hdd⟩ := dp_seq (dp_ext x1 _ _ hd) h1
      have hit : itemsD d = some ds := by rcases hdd with rfl | rfl <;> rfl
      refine ⟨_, rfl, a, rfl, ?_⟩
      refine for_enSq (xs := xs) hx (fun i σ' H' => Ext H1 H' ∧ (∃ o1 o2, σ' = [some (.ref a), o1, o2]) ∧ ∀ j d, j < i → ds[j]? = some d → nameD d = true) ⟨Ext.rfl', ⟨_, _, rfl⟩, fun j d hj _ => absurd hj (Nat.not_lt_zero _)⟩ (fun i σ' H' pv => pv.1) (fun i v σ' H' T' hi pv hT => ?_) (fun σ' H' pv => ?_)
      · obtain ⟨x2, ⟨o1, o2, rfl⟩, hok⟩ := pv
        refine ⟨T', _, rfl, SqT.of upd_same, rfl, _, _, rfl, _, _, rfl, rfl, ?_⟩
        have x3 := x2.upd' (o := .tup [.int (i : Nat), v]) hT
        obtain ⟨d0, hdi, hdv⟩ := dps_get (dps_ext x3 _ _ ha) hi
        refine ⟨v, rfl, v, d0, rfl, hdv, hsm ds hit d0 (List.mem_of_getElem? hdi), fun H4 x4 => ⟨_, rfl, ?_⟩⟩
        cases h4 : nameD d0 with
        | false =>
          refine iteT ⟨_, rfl, mkX_fin fun e he => e2 ds i hit ?_ _ ((x1.trans x3).trans x4) e he⟩
          exact find_at (f := fun d => !nameD d) (fun j d hj hd => by rw [hok j d hj hd]; rfl) hdi (by rw [h4]; rfl)
        | true =>
          refine iteF ⟨x3.trans x4, ⟨_, _, rfl⟩, fun j d' hj hd' => ?_⟩
          rcases Nat.lt_succ_iff_lt_or_eq.mp hj with hj | rfl
          · exact hok j d' hj hd'
          · rw [hdi] at hd'
            cases hd'
            exact h4
      · obtain ⟨x2, ⟨o1, o2, rfl⟩, hok⟩ := pv
        refine k ds hit ?_ _ (x1.trans x2)
        exact find_no (f := fun d => !nameD d) fun j d hd => by
          have hj : j < xs.length := by
            rw [dps_len ha]
            exact (List.getElem?_eq_some_iff.mp hd).1
          rw [hok j d hj hd]
          rfl
def ErrP (A : Ad) (E : XK) (H : Hp) (s : Str) : Prop := ∀ H', Ext H H' → ∀ e, H' e = none → E (.ref A.BadPart) (some e) (upd H' e (.xd [("part", .str s)]))
def spPlaces (K : PySem.W.Frag) (A : Ad) : Sp := fun vs H Q E => ∃ (v : V) (d : PyData), vs = [v] ∧ Dp K H v d ∧ (betD d 0 4 = false → ErrP A E H "places") ∧ (betD d 0 4 = true → Q .non H)
theorem ok_places {f : Addr} {fd : FuncData} (F : Fun K "check_places" "check_places" s_check_places f fd) (T : Txt K mg A) (O_is_between : Own P w K mg base CX0 "is_between" 2 pm_is_between (spBetween K)) (X_BadPart : XCls P w K mg base "BadPart" "part" A.BadPart) : FnOk P w K mg base (L2.CX P w) 4 f fd pm_check_places (spPlaces K A) := by
  refine F.okX sc_check_places (fun vs H Q E h => ?_) (fun cdv A' outer s H vs Q E hr h => ?_)
  · obtain ⟨_, _, rfl, _⟩ := h
    rfl
  · obtain ⟨v, d, rfl, hd, qE, qQ⟩ := h
    refine ⟨_, pss_one (ps_if (pt_not (pt_val (pe_own O_is_between (hr.mono (by decide)) pass0 (pa_cons (pv 0) (pa_cons (pe_int) (pa_cons (pe_gint T.g_MOST_PLACES) pa_nil)))))) (pss_one (ps_raise rfl (takes_of rfl rfl rfl rfl) (pmk_X X_BadPart (hr.mono (by decide)) (pe_str) rfl))) (pss_nil)), ?_⟩
    refine ⟨v, rfl, v, d, 0, 4, rfl, hd, _, rfl, ?_⟩
    cases h1 : betD d 0 4 with
    | false => exact iteT (mkX_fin fun e he => qE h1 _ Ext.rfl' e he)
    | true => exact iteF (qQ h1)
end
end K02

set_option Elab.async false
set_option maxRecDepth 100000
set_option maxHeartbeats 4000000
namespace K02
open PySem PySem.Spec PyProof.Rows L2
def sV : Option Str → V | none => .non | some s => .str s
def nI (j : Nat) : V := .int (j : Int)
def oV : Option Nat → V | none => .non | some j => nI j
theorem eq_sV (a b : Option Str) : eqV (sV a) (sV b) = decide (a = b) := by
  cases a with
  | none => cases b <;> rfl
  | some a =>
    cases b with
    | none => rfl
    | some b =>
      show (a == b) = _
      rw [Bool.eq_iff_iff]
      simp
theorem in_sV (a : Option Str) : ∀ S : List (Option Str), inV (sV a) (S.map sV) = decide (a ∈ S)
  | [] => rfl
  | s :: S => by
    have ih := in_sV a S
    unfold inV at ih ⊢
    rw [List.map_cons, List.any_cons, ih, eq_sV, Bool.eq_iff_iff]
    simp
    constructor
    · rintro (e | e)
      · exact .inl e.symm
      · exact .inr e
    · rintro (e | e)
      · exact .inl e.symm
      · exact .inr e
theorem flat_sV {S : List (Option Str)} : (S.map sV).all flatV = true := by
  rw [List.all_eq_true]
  intro v hv
  obtain ⟨n, _, rfl⟩ := List.mem_map.mp hv
  cases n <;> rfl
theorem fl1 (a : Option Str) : flatV (sV a) = true := by cases a <;> rfl
theorem at_sV {a : Option Str} {S : List (Option Str)} (h : a ∈ S) : (S.map sV)[at1 S a]? = some (sV a) ∧ ∀ (m : Nat) (z : V), m < at1 S a → (S.map sV)[m]? = some z → eqV z (sV a) = false := by
  obtain ⟨h1, h2⟩ := at1_mem h
  refine ⟨by rw [List.getElem?_map, h1]; rfl, fun m z hm hz => ?_⟩
  rw [List.getElem?_map] at hz
  cases hy : S[m]? with
  | none => rw [hy] at hz; cases hz
  | some y =>
    rw [hy] at hz
    cases hz
    rw [eq_sV]
    exact decide_eq_false (h2 m y hm hy)
theorem nn_sV (a : Option Str) : (decide (sV a = .non)) = decide (a = none) := by cases a <;> simp [sV]
theorem nn_oV (a : Option Nat) : (decide (oV a = .non)) = decide (a = none) := by cases a <;> simp [oV, nI]
section
variable {P : Program} {w : World} {K : PySem.W.Frag} {mg : Str → Option Value} {base : Heap} {A : Ad}
def spNext (K : PySem.W.Frag) : Sp := fun vs H Q _ => ∃ (ps po : Addr) (S : List (Option Str)) (O : List Nat), vs = [.ref ps, .ref po] ∧ ((SqL K H ps (S.map sV) ∧ SqL K H po (O.map nI)) ∨ (FrzT H ps (S.map sV) ∧ SqT K H po (O.map nI))) ∧
  (O.length < S.length → none ∈ S) ∧ Q (oV (nextP (S, O))) H
theorem ok_next {f : Addr} {fd : FuncData} (F : Fun K "next_of" "next_of" s_next_of f fd) (T : Txt K mg A) : FnOk P w K mg base CX0 1 f fd pm_next_of (spNext K) := by
  refine F.ok sc_next_of (fun vs H Q E h => ?_) (fun cdv A' outer s H vs Q E hr h => ?_)
  · obtain ⟨_, _, _, _, rfl, _⟩ := h
    rfl
  · obtain ⟨ps, po, S, O, rfl, hx, hn, q⟩ := h
    refine ⟨_, pss_cons (ps_if (pt_cmpR op_lt (pe_callB call_len_seq (by rfl) T.n_len (by decide +kernel) (pa_cons (pv 1) pa_nil)) (pe_callB call_len_seq (by rfl) T.n_len (by decide +kernel) (pa_cons (pv 0) pa_nil)) (nomark _)) (pss_one (ps_ret (pe_either (pe_bm PySem.F.plainAttrs_list PySem.F.slot_list_index PySem.F.type_list_index mt_index (pv 0) (pa_cons (pe_non) pa_nil)) (pe_tm PySem.F.slot_tuple_index PySem.F.type_tuple_index mt_tupIndex (pv 0) (pa_cons (pe_non) pa_nil))))) (pss_nil))
      (pss_one (ps_ret (pe_ifExp (pt_truth (pv 1) (by intro _; rfl)) (pe_either (pe_ix ix_list (pv 1) pe_int (fun _ _ => rfl)) (pe_ix ix_tup (pv 1) pe_int (fun _ _ => rfl))) (pe_non)))), ?_⟩
    have hO : SqL K H po (O.map nI) ∨ SqT K H po (O.map nI) := hx.imp And.right And.right
    have hS : SqL K H ps (S.map sV) ∨ SqT K H ps (S.map sV) := hx.imp And.left fun h => h.1.sqT
    refine ⟨_, rfl, po, _, rfl, hO, _, rfl, ps, _, rfl, hS, _, _, rfl, rfl, _, rfl, ?_⟩
    rw [List.length_map, List.length_map]
    unfold nextP at q
    dsimp only at q
    by_cases hl : O.length < S.length
    · rw [if_pos hl] at q
      rw [decide_eq_true (show (O.length : Int) < (S.length : Int) by omega)]
      obtain ⟨a1, a2⟩ := at_sV (hn hl)
      refine iteT ?_
      rcases hx with hx | hx
      · exact .inl ⟨_, rfl, .inl ⟨rfl, _, hx.1⟩, ps, _, .non, _, _, rfl, rfl, hx.1, rfl, flat_sV, a1, rfl, a2, q⟩
      · exact .inr ⟨_, rfl, _, _, rfl, hx.1, ps, _, .non, _, _, rfl, rfl, hx.1.sqT, rfl, flat_sV, a1, rfl, a2, q⟩
    · rw [if_neg hl] at q
      rw [decide_eq_false (show ¬ (O.length : Int) < (S.length : Int) by omega)]
      refine iteF ?_
      cases O with
      | nil =>
        rcases hx with hx | hx
        · exact ⟨_, rfl, false, .inl ⟨_, hx.2, rfl⟩, iteF q⟩
        · exact ⟨_, rfl, false, .inr (.inl ⟨_, hx.2, rfl⟩), iteF q⟩
      | cons o O =>
        rcases hx with hx | hx
        · exact ⟨_, rfl, true, .inl ⟨_, hx.2, rfl⟩, iteT (.inl ⟨_, rfl, po, _, 0, nI o, rfl, rfl, hx.2, atI_nat (j := 0) rfl, q⟩)⟩
        · exact ⟨_, rfl, true, .inr (.inl ⟨_, hx.2, rfl⟩), iteT (.inr ⟨_, rfl, po, _, 0, nI o, rfl, rfl, hx.2, atI_nat (j := 0) rfl, q⟩)⟩
end
end K02

set_option Elab.async false
set_option maxRecDepth 100000
set_option maxHeartbeats 4000000
namespace K02
open PySem PySem.Spec PyProof.Rows L2
theorem ok_run {n : Nat} : ∀ us : List Str, ∃ ns, Ok n (run n us) ns ∧ ∀ x, x ∈ ns → x ∈ us := by
  have h : ∀ (us : List Str) (s : St Str) (ns : List Str), Ok n s ns → ∃ ns', Ok n (us.foldl step s) ns' ∧ ∀ x, x ∈ ns' → x ∈ ns ∨ x ∈ us := by
    intro us
    induction us with
    | nil => exact fun s ns o => ⟨ns, o, fun x hx => .inl hx⟩
    | cons u us ih =>
      intro s ns o
      obtain ⟨n1, o1, h1⟩ := ok_step o u
      obtain ⟨n2, o2, h2⟩ := ih _ _ o1
      refine ⟨n2, o2, fun x hx => ?_⟩
      rcases h2 x hx with h | h
      · rcases h1 x h with h | h
        · exact .inl h
        · exact .inr (by rw [h]; exact List.mem_cons_self)
      · exact .inr (List.mem_cons_of_mem _ h)
  intro us
  obtain ⟨ns, o, h⟩ := h us _ [] ok_emp
  exact ⟨ns, o, fun x hx => (h x hx).resolve_left (List.not_mem_nil)⟩
theorem run_snoc {n : Nat} {us : List Str} {i : Nat} {u : Str} (h : us[i]? = some u) : run n (us.take (i + 1)) = step (run n (us.take i)) u := by
  unfold run
  rw [take_snoc h, List.foldl_append]
  rfl
theorem ne_nI {O : List Nat} (p : Nat) : (O.map nI).filter (fun v => !decide (v = nI p)) = (O.filter (fun o => decide (o ≠ p))).map nI := by
  rw [List.filter_map]
  congr 1
  refine List.filter_congr fun x _ => ?_
  show (!decide (V.int (x : Int) = V.int (p : Int))) = _
  rw [dvi, Bool.eq_iff_iff]
  simp
  omega
section
variable {P : Program} {w : World} {K : PySem.W.Frag} {mg : Str → Option Value} {base : Heap} {A : Ad}
def spBehind (K : PySem.W.Frag) : Sp := fun vs H Q _ => ∃ (n : Nat) (a : Addr) (us : List Str), vs = [.int (n : Int), .ref a] ∧ (SqL K H a (us.map V.str) ∨ SqT K H a (us.map V.str)) ∧ n ≤ 4 ∧ ∀ q ps po H', Ext H H' → H' q = some (.tup [.ref ps, .ref po]) →
  FrzT H' ps ((run n us).1.map sV) → SqT K H' po ((run n us).2.map nI) → Q (.ref q) H'
theorem place_lt {n : Nat} {s : St Str} {ns : List Str} (o : Ok n s ns) {u : Str} {p : Nat} (h : place s u = some p) : p < s.1.length := by
  unfold place at h
  by_cases hm : some u ∈ s.1
  · rw [if_pos hm] at h
    cases h
    exact (List.getElem?_eq_some_iff.mp (at1_mem hm).1).1
  · rw [if_neg hm] at h
    unfold nextP at h
    by_cases hl : s.2.length < s.1.length
    · rw [if_pos hl] at h
      cases h
      rw [o.olen, o.len] at hl
      rw [o.atn hl, o.len]
      exact hl
    · rw [if_neg hl] at h
      cases hO : s.2 with
      | nil => rw [hO] at h; cases h
      | cons q O =>
        rw [hO] at h
        cases h
        have z : p < ns.length := o.omem.mp (by rw [hO]; exact List.mem_cons_self)
        rw [o.len]
        exact Nat.lt_of_lt_of_le z o.le
theorem ok_behind {f : Addr} {fd : FuncData} (F : Fun K "slots_behind" "slots_behind" s_slots_behind f fd) (T : Txt K mg A) (O_next_of : Own P w K mg base CX0 "next_of" 1 pm_next_of (spNext K)) : FnOk P w K mg base CX0 2 f fd pm_slots_behind (spBehind K) := by
  refine F.ok sc_slots_behind (fun vs H Q E h => ?_) (fun cdv A' outer s H vs Q E hr h => ?_)
  · obtain ⟨_, _, _, rfl, _⟩ := h
    rfl
  · obtain ⟨n, a, us, rfl, ha, hn, q⟩ := h
    refine ⟨_, pss_cons (ps_set (i := 2) sc_slots_behind.nd rfl (Or.inl rfl) (pe_op op_rep (pe_lst (pa_cons (pe_non) pa_nil)) (pv 0)))
      (pss_cons (ps_set (i := 3) sc_slots_behind.nd rfl (Or.inl rfl) (pe_lst (pa_nil)))
      (pss_cons (ps_for PassesOwn.never rfl (pi_sq (pv 1)) (pg_name (i := 4) sc_slots_behind.nd rfl (Or.inl rfl)) (Evl.pss_cut (ps_set (i := 5) sc_slots_behind.nd rfl (Or.inr rfl) (pe_ifExp (pt_cmpR op_in_seq (pv 4) (pv 2) (by with_unfolding_all rfl)) (pe_bm PySem.F.plainAttrs_list PySem.F.slot_list_index PySem.F.type_list_index mt_index (pv 2) (pa_cons (pv 4) pa_nil)) (pe_own O_next_of (hr.mono (by decide)) pass0 (pa_cons (pv 2) (pa_cons (pv 3) pa_nil)))))
      (pss_one (ps_if (pt_cmpR op_notN (pv 5) (pe_non) (nomark _)) (pss_cons (ps_asg (pv 4) (pg_sub (pv 2) (pv 5) set_list))
      (pss_one (ps_set (i := 3) sc_slots_behind.nd rfl (Or.inl rfl) (pe_op op_cat (pe_lc (own := [("old", 6)]) (g := gName 6) (by rfl) sc_slots_behind.nd (pi_sq (pv 3)) (blkOk_by (own := [("old", 6)]) (N := nm_slots_behind) (sc := defScope s_slots_behind) (by decide +kernel)) (fun _ _ _ _ _ => pg_name (i := 6) sc_slots_behind.nd rfl (Or.inl rfl)) (fun s1 H1 C1 cl fp => pts_one (pt_cmpR op_ne (pv 6) (pv 5) (nomark _))) (fun s1 H1 C1 cl fp => pv 6)) (pe_lst (pa_cons (pv 5) pa_nil)))))) (pss_nil)))))
      (pss_one (ps_ret (pe_tup (pa_cons (pe_callTy call_tuple_frz (by rfl) T.n_tuple (by decide +kernel) (pa_cons (pv 2) pa_nil)) (pa_cons (pe_callTy call_tuple_of (by rfl) T.n_tuple (by decide +kernel) (pa_cons (pv 3) pa_nil)) pa_nil))))))), ?_⟩
    refine ⟨by decide, fun l hl => ⟨_, rfl, l, (n : Int), [.non], rfl, rfl, upd_same, by omega, by omega, Nat.le_trans (show ([V.non] : List V).length * (n : Int).toNat ≤ 4 by show 1 * (n : Int).toNat ≤ 4; omega) (by decide), fun D hD => ?_⟩⟩
    refine ⟨by decide, fun po hpo => ⟨_, rfl, a, rfl, ?_⟩⟩
    have hD0 := ext_none (Ext.upd hl) hD
    have e2 : Ext H (upd (upd H l (.lst [.non])) D (.lst (List.replicate (n : Int).toNat [V.non]).flatten)) := (Ext.upd hl).trans (Ext.upd hD)
    have hpo0 := ext_none e2 hpo
    have hrep : (List.replicate (n : Int).toNat [V.non]).flatten = ((emp n : St Str).1).map sV := by
      rw [show (n : Int).toNat = n by omega]
      show _ = (List.replicate n (none : Option Str)).map sV
      rw [List.map_replicate]
      clear q hn ha hD hD0 e2 hpo hpo0
      induction n with
      | zero => rfl
      | succ n ih => rw [List.replicate_succ, List.flatten_cons, ih]; rfl
    refine for_sqM (H0 := H) (xs := us.map V.str) ha (fun i σ' H' => Ext H H' ∧ ∃ po o4 o5, σ' = [some (.int (n : Int)), some (.ref a), some (.ref D), some (.ref po), o4, o5, none] ∧ H' D = some (.lst ((run n (us.take i)).1.map sV)) ∧ H' po = some (.lst ((run n (us.take i)).2.map nI)) ∧ po ≠ D)
      ⟨e2.trans (Ext.upd hpo), po, _, _, rfl, by rw [upd_ne (ne_of_none upd_same hpo), upd_same, hrep]; rfl, upd_same, (ne_of_none upd_same hpo).symm⟩ (fun i σ' H' pv => pv.1) (fun i x σ' H' hi pv => ?_) (fun σ' H' pv => ?_)
    · obtain ⟨e, po, o4, o5, rfl, hS, hO, hne⟩ := pv
      rw [List.getElem?_map] at hi
      obtain ⟨u, hu, rfl⟩ := Option.map_eq_some_iff.mp hi
      obtain ⟨ns, ok, _⟩ := ok_run (n := n) (us.take i)
      rw [run_snoc hu]
      generalize run n (us.take i) = R at hS hO ok ⊢
      refine ⟨fun σ2 H2 => H2 = H' ∧ σ2 = [some (.int (n : Int)), some (.ref a), some (.ref D), some (.ref po), some (.str u), some (oV (place R u)), none], ?_, ?_⟩
      · refine ⟨_, rfl, _, rfl, D, _, rfl, .inl (SqL.of hS), rfl, flat_sV, _, rfl, ?_⟩
        rw [show (if false = true then !inV (V.str u) (R.1.map sV) else inV (V.str u) (R.1.map sV)) = decide (some u ∈ R.1) from in_sV (some u) R.1]
        unfold place
        by_cases hm : some u ∈ R.1
        · rw [decide_eq_true hm, if_pos hm]
          obtain ⟨a1, a2⟩ := at_sV hm
          exact iteT ⟨_, rfl, .inl ⟨rfl, _, SqL.of hS⟩, _, rfl, D, _, .str u, _, _, rfl, rfl, SqL.of hS, rfl, flat_sV, a1, by show eqV (sV (some u)) (sV (some u)) = true; rw [eq_sV]; exact decide_eq_true rfl, a2, rfl, rfl⟩
        · rw [decide_eq_false hm, if_neg hm]
          refine iteF ⟨_, rfl, _, rfl, D, po, R.1, R.2, rfl, .inl ⟨SqL.of hS, SqL.of hO⟩, fun hl => ?_, rfl, rfl⟩
          rw [ok.olen, ok.len] at hl
          exact ok.nonemem.mpr hl
      · rintro σ2 H2 ⟨rfl, rfl⟩
        refine ⟨_, rfl, rfl, _, rfl, ?_⟩
        rw [nn_oV]
        cases hp : place R u with
        | none =>
          refine iteF ⟨e, po, _, _, rfl, ?_, ?_⟩
          · unfold step
            rw [hp]
            exact hS
          · unfold step
            rw [hp]
            exact ⟨hO, hne⟩
        | some p =>
          have hst : step R u = put R u p := by
            unfold step
            rw [hp]
          rw [hst]
          have hpl := place_lt ok hp
          refine iteT ⟨_, rfl, _, rfl, _, rfl, D, _, (p : Int), p, rfl, rfl, hS, ?_, ?_⟩
          · rw [List.length_map]
            exact Evl.ixN_nat hpl
          · have e3 : Ext H (upd H2 D (.lst ((R.1.map sV).set p (.str u)))) := ext_mut e hD0
            have hO3 : (upd H2 D (.lst ((R.1.map sV).set p (.str u)))) po = some (.lst (R.2.map nI)) := by
              rw [upd_ne hne]
              exact hO
            have hS3 : (upd H2 D (.lst ((R.1.map sV).set p (.str u)))) D = some (.lst ((R.1.set p (some u)).map sV)) := by
              rw [upd_same, List.map_set]
              rfl
            generalize upd H2 D (.lst ((R.1.map sV).set p (.str u))) = H3 at e3 hO3 hS3 ⊢
            refine ⟨_, rfl, po, rfl, lc_sqG (xs := R.2.map nI) (f := fun v => v) (b := fun v => !decide (v = nI p)) (.inl (SqL.of hO3)) ?_ (fun _ => rfl) (fun x hx H4 e4 Q' hq => ?_) (fun x _ _ H4 e4 Q' hq => ?_) (fun D4 H4 hD4 e4 hl4 => ?_)⟩
            · rw [List.length_map]
              exact small_sz (by rw [ok.olen]; have := ok.le; omega)
            · obtain ⟨o, _, rfl⟩ := List.mem_map.mp hx
              exact ⟨_, rfl, _, rfl, rfl, _, rfl, hq _ Ext.rfl'⟩
            · exact ⟨_, rfl, hq _ Ext.rfl'⟩
            · rw [List.map_id', ne_nI] at hl4
              refine ⟨_, rfl, by show 1 ≤ sizeLine; decide, fun D5 hD5 => ⟨D4, D5, _, _, rfl, rfl, Ext.upd hD5 _ _ hl4, upd_same, ?_, fun D6 hD6 => ?_⟩⟩
              · rw [List.length_map]
                have z := List.length_filter_le (fun o => decide (o ≠ p)) R.2
                have := ok.olen
                have := ok.le
                exact Nat.le_of_lt (small_sz (by show _ + 1 ≤ 2000; omega))
              · have e5 := (e4.trans (Ext.upd hD5 (o := .lst [oV (some p)]))).trans (Ext.upd hD6 (o := .lst ((R.2.filter (fun o => decide (o ≠ p))).map nI ++ [oV (some p)])))
                have e5s := e5 _ _ hS3
                refine ⟨e3.trans e5, D6, _, _, rfl, e5s, ?_, fun z => ?_⟩
                · rw [upd_same, put, List.map_append]
                  rfl
                · rw [z] at hD6
                  rw [(e4.trans (Ext.upd hD5 (o := .lst [oV (some p)]))) _ _ hS3] at hD6
                  cases hD6
    · obtain ⟨e, po, o4, o5, rfl, hS, hO, hne⟩ := pv
      rw [List.length_map, List.take_length] at hS hO
      refine ⟨_, rfl, D, _, rfl, SqL.of hS, fun t o ht ho => ?_⟩
      refine ⟨_, rfl, po, _, rfl, .inl ⟨SqL.of (Ext.upd ht _ _ hO), fun t2 ht2 => ⟨by show 2 ≤ sizeLine; decide, fun q2 hq => ?_⟩⟩⟩
      refine q _ _ _ _ ((((e.trans (Ext.upd ht)).trans (Ext.upd ht2)).trans (Ext.upd hq))) upd_same ⟨o, ?_, ho⟩ (SqT.of ?_)
      · exact Ext.upd hq _ _ (Ext.upd ht2 _ _ upd_same)
      · exact Ext.upd hq _ _ upd_same
end
end K02

set_option Elab.async false
set_option maxRecDepth 100000
set_option maxHeartbeats 4000000
namespace K02
open PySem PySem.Spec PyProof.Rows L2
def bF (n : Nat) (ps po : Addr) : List (Str × V) := [("places", .int (n : Int)), ("slots", .ref ps), ("order", .ref po)]
def Good (n : Nat) (s : St Str) : Prop := n ≤ 4 ∧ ∃ ns, Ok n s ns ∧ ∀ x, x ∈ ns → nameS x = true
theorem names_yes : ∀ {ds : List PyData}, badAt ds = none → ∃ us : List Str, ds = us.map PyData.str ∧ ∀ u, u ∈ us → nameS u = true
  | [], _ => ⟨[], rfl, fun _ h => nomatch h⟩
  | d :: ds, h => by
    unfold badAt at h
    rw [List.findIdx?_eq_none_iff] at h
    obtain ⟨us, rfl, hu⟩ := names_yes (ds := ds) (List.findIdx?_eq_none_iff.mpr fun x hx => h x (List.mem_cons_of_mem _ hx))
    have z := h d List.mem_cons_self
    cases d with
    | str s =>
      refine ⟨s :: us, rfl, fun u hu' => ?_⟩
      rcases List.mem_cons.mp hu' with rfl | hu'
      · have z' : (!nameS u) = false := z
        cases hs : nameS u with
        | true => rfl
        | false => rw [hs] at z'; cases z'
      · exact hu u hu'
    | _ => cases z
theorem names_ok : ∀ {us : List Str}, (∀ u, u ∈ us → nameS u = true) → badAt (us.map PyData.str) = none := fun h => by
  unfold badAt
  rw [List.findIdx?_eq_none_iff]
  intro x hx
  obtain ⟨u, hu, rfl⟩ := List.mem_map.mp hx
  show (!nameS u) = false
  rw [h u hu]
  rfl
theorem good_run {n : Nat} (hn : n ≤ 4) {us : List Str} (h : ∀ u, u ∈ us → nameS u = true) : Good n (run n us) := by
  obtain ⟨ns, o, hs⟩ := ok_run (n := n) us
  exact ⟨hn, ns, o, fun x hx => h x (hs x hx)⟩
theorem good_step {n : Nat} {s : St Str} (g : Good n s) {h : Str} (hh : nameS h = true) : Good n (step s h) := by
  obtain ⟨hn, ns, o, hs⟩ := g
  obtain ⟨ns', o', h'⟩ := ok_step o h
  refine ⟨hn, ns', o', fun x hx => ?_⟩
  rcases h' x hx with h | rfl
  · exact hs x h
  · exact hh
section
variable {P : Program} {w : World} {K : PySem.W.Frag} {mg : Str → Option Value} {base : Heap} {A : Ad}
theorem dps_str {H : Hp} : ∀ {us : List Str} {xs : List V}, DpAll K H xs (us.map PyData.str) → xs = us.map V.str
  | [], _, h => by cases h; rfl
  | u :: us, _, h => by
    cases h with
    | cons a b =>
      cases a
      rw [dps_str b]
      rfl
theorem str_dps {H : Hp} : ∀ {us : List Str}, DpAll K H (us.map V.str) (us.map PyData.str)
  | [] => .nil
  | u :: us => .cons (.str u) str_dps
/-- a book at b: its places, its slots and their order -/
def BkAt (K : PySem.W.Frag) (A : Ad) (H : Hp) (b : Addr) (n : Nat) (s : St Str) : Prop := ∃ dx ps po, H b = some (.ins A.Book dx (bF n ps po)) ∧ FrzT H ps (s.1.map sV) ∧ SqT K H po (s.2.map nI)
theorem BkAt.ext {H H' : Hp} {b : Addr} {n : Nat} {s : St Str} (h : BkAt K A H b n s) (e : Ext H H') : BkAt K A H' b n s := by
  obtain ⟨dx, ps, po, h1, h2, h3⟩ := h
  exact ⟨dx, ps, po, e _ _ h1, h2.ext e, h3.ext e⟩
def spBookInit (K : PySem.W.Frag) (A : Ad) : Sp := fun vs H Q E => ∃ (p dx : Addr) (vp vu : V) (dp du : PyData), vs = [.ref p, vp, vu] ∧ H p = some (.ins A.Book dx []) ∧ Dp K H vp dp ∧ Dp K H vu du ∧ (∀ ds, itemsD du = some ds → ∀ x ∈ ds, SmD x) ∧
  (betD dp 0 4 = false → ErrP A E H "places") ∧ (betD dp 0 4 = true → isSeqD du = false → ErrH A E H .non) ∧ (betD dp 0 4 = true → ∀ ds i, itemsD du = some ds → badAt ds = some i → ErrH A E H (.int (i : Nat))) ∧
  (∀ (n : Nat) (us : List Str), dp = .int (n : Int) → n ≤ 4 → itemsD du = some (us.map PyData.str) → (∀ u, u ∈ us → nameS u = true) → ∀ H', BkAt K A H' p n (run n us) → (∀ x o, x ≠ p → H x = some o → H' x = some o) → Q .non H')
theorem sqT_mut {H H' : Hp} {p a C dx : Addr} {fs : List (Str × V)} {xs : List V} (hp : H p = some (.ins C dx fs)) (e : ∀ x o, x ≠ p → H x = some o → H' x = some o) (h : SqT K H a xs) : SqT K H' a xs := by
  rcases h with (h | ⟨o, h⟩) | h
  · exact .inl (.inl (e a _ (fun z => by rw [z, hp] at h; cases h) h))
  · exact .inl (.inr ⟨o, e a _ (fun z => by rw [z, hp] at h; cases h) h⟩)
  · exact .inr h
theorem frz_mut {H H' : Hp} {p a C dx : Addr} {fs : List (Str × V)} {xs : List V} (hp : H p = some (.ins C dx fs)) (e : ∀ x o, x ≠ p → H x = some o → H' x = some o) (h : FrzT H a xs) : FrzT H' a xs := by
  obtain ⟨o, h, d⟩ := h
  exact ⟨o, e a _ (fun z => by rw [z, hp] at h; cases h) h, d⟩
theorem ok_bookInit {f : Addr} {fd : FuncData} (F : FunD K "__init__" "Book.__init__" (defArgs s_Book_init) (defBody s_Book_init) (defScope s_Book_init) [.ref A.T0] [] f fd) (T : Txt K mg A)
    (O_check_places : Own P w K mg base (L2.CX P w) "check_places" 4 pm_check_places (spPlaces K A)) (O_check_heads : Own P w K mg base (L2.CX P w) "check_heads" 3 pm_check_heads (spHeads K A)) (O_slots_behind : Own P w K mg base CX0 "slots_behind" 2 pm_slots_behind (spBehind K)) :
    FnOk P w K mg base (L2.CX P w) 5 f fd pm_Book_init (spBookInit K A) := by
  refine F.ok sc_Book_init (fun vs H Q E h => ?_) (fun cdv A' outer s H vs Q E hr h => ?_)
  · obtain ⟨_, _, _, _, _, _, rfl, _⟩ := h
    rfl
  · obtain ⟨p, dx, vp, vu, dp, du, rfl, hp, hvp, hvu, hsm, q1, q2, q3, q4⟩ := h
    refine ⟨_, pss_cons (ps_expr (pe_ownS O_check_places (hr.mono (by decide)) (takes_of rfl rfl rfl rfl) (pa_cons (pv 1) pa_nil)))
      (pss_cons (ps_expr (pe_ownS O_check_heads (hr.mono (by decide)) (takes_of rfl rfl rfl rfl) (pa_cons (pv 2) pa_nil)))
      (pss_cons (ps_asg (pe_own O_slots_behind (hr.mono (by decide)) pass0 (pa_cons (pv 1) (pa_cons (pv 2) pa_nil))) (pg_tup rfl (pgs_cons (pg_name (i := 3) sc_Book_init.nd rfl (Or.inl rfl)) (pgs_cons (pg_name (i := 4) sc_Book_init.nd rfl (Or.inl rfl)) (pgs_nil)))))
      (pss_cons (ps_fld (pv 0) (pv 1) rfl)
      (pss_cons (ps_fld (pv 0) (pv 3) rfl)
      (pss_one (ps_fld (pv 0) (pv 4) rfl)))))), ?_⟩
    refine ⟨vp, rfl, vp, dp, rfl, hvp, q1, fun hb => ?_⟩
    obtain ⟨m, rfl, hm0, hm4⟩ := bet_yes hb
    obtain rfl := dp_int hvp
    obtain ⟨n, rfl⟩ := Int.eq_ofNat_of_zero_le hm0
    refine ⟨vu, rfl, vu, du, rfl, hvu, hsm, q2 hb, q3 hb, fun ds hit hbad H1 e1 => ?_⟩
    obtain ⟨us, rfl, hus⟩ := names_yes hbad
    have hsq : isSeqD du = true := by cases du <;> first | rfl | cases hit
    obtain ⟨a, xs, ds', rfl, hx, ha, hd⟩ := dp_seq (dp_ext e1 _ _ hvu) hsq
    have he : ds' = us.map PyData.str := by
      rcases hd with rfl | rfl
      · exact Option.some.inj hit
      · exact Option.some.inj hit
    subst he
    obtain rfl := dps_str ha
    refine ⟨_, rfl, _, rfl, n, a, us, rfl, hx, by omega, fun q ps po H2 e2 hq hps hpo => ?_⟩
    have hp2 := (e1.trans e2) _ _ hp
    refine ⟨q, _, rfl, SqT.of hq, rfl, _, _, rfl, _, _, rfl, rfl, ?_⟩
    refine ⟨_, rfl, _, rfl, p, A.Book, dx, _, rfl, hp2, T.Book.cl, T.b_places, (by show 0 < 1000; decide), ?_⟩
    refine ⟨_, rfl, _, rfl, p, A.Book, dx, _, rfl, upd_same, T.Book.cl, T.b_slots, (by show 1 < 1000; decide), ?_⟩
    refine ⟨_, rfl, _, rfl, p, A.Book, dx, _, rfl, upd_same, T.Book.cl, T.b_order, (by show 2 < 1000; decide), ?_⟩
    rw [upd_upd, upd_upd]
    have hm : ∀ (o : HO) x u, x ≠ p → H2 x = some u → upd H2 p o x = some u := fun o x u hx h => by
      rw [upd_ne hx]
      exact h
    refine q4 n us rfl (by omega) hit hus _ ⟨dx, ps, po, upd_same, frz_mut hp2 (hm _) hps, sqT_mut hp2 (hm _) hpo⟩ fun x o hx ho => hm _ _ _ hx ((e1.trans e2) _ _ ho)
end
end K02

set_option Elab.async false
set_option maxRecDepth 100000
set_option maxHeartbeats 4000000
namespace K02
open PySem PySem.Spec PyProof.Rows L2
theorem al_small : ∀ c ∈ (("abcdefghijklmnopqrstuvwxyz" : Str)).cps.toList, c < 128 := by decide +kernel
theorem name_ok {s : Str} (h : nameS s = true) : PyData.strOk s = true := by
  unfold nameS at h
  rw [Bool.and_eq_true, List.all_eq_true] at h
  unfold PyData.strOk
  rw [← Array.all_toList, List.all_eq_true]
  intro c hc
  have z := h.2 c hc
  unfold inAl at z
  rw [decide_eq_true_eq] at z
  have := al_small c z
  rw [decide_eq_true_eq]
  omega
theorem name_len {s : Str} (h : nameS s = true) : s.length ≤ 8 := by
  unfold nameS at h
  rw [Bool.and_eq_true, Bool.and_eq_true, decide_eq_true_eq, decide_eq_true_eq] at h
  omega
theorem fl_sV {s : St Str} {n : Nat} (g : Good n s) : ∀ v ∈ s.1.map sV, Fl v := by
  intro v hv
  obtain ⟨o, ho, rfl⟩ := List.mem_map.mp hv
  cases o with
  | none => trivial
  | some x =>
    obtain ⟨_, ns, ok, hs⟩ := g
    exact name_ok (hs x (ok.mem.mp ho))
theorem fl_nI {O : List Nat} : ∀ v ∈ O.map nI, Fl v := by
  intro v hv
  obtain ⟨o, _, rfl⟩ := List.mem_map.mp hv
  trivial
theorem eqv_sV : ∀ S T : List (Option Str), PyData.eqvAll ((S.map sV).map pd) ((T.map sV).map pd) = decide (S = T)
  | [], [] => rfl
  | [], _ :: _ => rfl
  | _ :: _, [] => rfl
  | a :: S, b :: T => by
    show (PyData.eqv (pd (sV a)) (pd (sV b)) && PyData.eqvAll ((S.map sV).map pd) ((T.map sV).map pd)) = _
    rw [eqv_sV S T, Bool.eq_iff_iff]
    have e : PyData.eqv (pd (sV a)) (pd (sV b)) = decide (a = b) := by
      cases a with
      | none => cases b <;> rfl
      | some a =>
        cases b with
        | none => rfl
        | some b =>
          show (a == b) = _
          rw [Bool.eq_iff_iff]
          simp
    rw [e]
    simp
theorem eqv_nI : ∀ O L : List Nat, PyData.eqvAll ((O.map nI).map pd) ((L.map nI).map pd) = decide (O = L)
  | [], [] => rfl
  | [], _ :: _ => rfl
  | _ :: _, [] => rfl
  | a :: S, b :: T => by
    show (((a : Int) == (b : Int)) && PyData.eqvAll ((S.map nI).map pd) ((T.map nI).map pd)) = _
    rw [eqv_nI S T, Bool.eq_iff_iff]
    simp
    omega
def inBk : PyData → St Str → Bool | .str x, s => decide (some x ∈ s.1) | _, _ => false
def placeD : PyData → St Str → Option Nat | .str x, s => if some x ∈ s.1 then some (at1 s.1 (some x)) else none | _, _ => none
section
variable {P : Program} {w : World} {K : PySem.W.Frag} {mg : Str → Option Value} {base : Heap} {A : Ad}
def spHeld (K : PySem.W.Frag) (A : Ad) : Sp := fun vs H Q _ => ∃ b dx ps po n, vs = [.ref b] ∧ H b = some (.ins A.Book dx (bF n ps po)) ∧ Q (.ref ps) H
theorem ok_held {f : Addr} {fd : FuncData} (F : Fun K "held" "Book.held" s_Book_held f fd) (T : Txt K mg A) : FnOk P w K mg base CX0 1 f fd pm_Book_held (spHeld K A) := by
  refine F.ok sc_Book_held (fun vs H Q E h => ?_) (fun cdv A' outer s H vs Q E hr h => ?_)
  · obtain ⟨_, _, _, _, _, rfl, _⟩ := h
    rfl
  · obtain ⟨b, dx, ps, po, n, rfl, hb, q⟩ := h
    refine ⟨_, pss_one (ps_ret (pe_fld (pv 0) rfl)), ?_⟩
    exact ⟨_, rfl, b, A.Book, dx, _, _, rfl, hb, T.Book.cl, T.b_slots, rfl, q⟩
def spOldest (K : PySem.W.Frag) (A : Ad) : Sp := fun vs H Q _ => ∃ b n s, vs = [.ref b] ∧ BkAt K A H b n s ∧ ∀ l, H l = none → Q (.ref l) (upd H l (.lst (s.2.map nI)))
theorem ok_oldest {f : Addr} {fd : FuncData} (F : Fun K "oldest_first" "Book.oldest_first" s_Book_oldest_first f fd) (T : Txt K mg A) : FnOk P w K mg base CX0 1 f fd pm_Book_oldest_first (spOldest K A) := by
  refine F.ok sc_Book_oldest_first (fun vs H Q E h => ?_) (fun cdv A' outer s H vs Q E hr h => ?_)
  · obtain ⟨_, _, _, rfl, _⟩ := h
    rfl
  · obtain ⟨b, n, s, rfl, ⟨dx, ps, po, hb, hs, ho⟩, q⟩ := h
    refine ⟨_, pss_one (ps_ret (pe_callTy call_list_of (by rfl) T.n_list (by decide +kernel) (pa_cons (pe_fld (pv 0) rfl) pa_nil))), ?_⟩
    exact ⟨_, rfl, b, A.Book, dx, _, _, rfl, hb, T.Book.cl, T.b_order, rfl, po, _, rfl, .inr ho, q⟩
def spIn (K : PySem.W.Frag) (A : Ad) : Sp := fun vs H Q _ => ∃ b n s v d, vs = [.ref b, v] ∧ BkAt K A H b n s ∧ Dp K H v d ∧ Q (.bl (inBk d s)) H
theorem ok_in {f : Addr} {fd : FuncData} (F : Fun K "__contains__" "Book.__contains__" s_Book_contains f fd) (T : Txt K mg A) : FnOk P w K mg base CX0 1 f fd pm_Book_contains (spIn K A) := by
  refine F.ok sc_Book_contains (fun vs H Q E h => ?_) (fun cdv A' outer s H vs Q E hr h => ?_)
  · obtain ⟨_, _, _, _, _, rfl, _⟩ := h
    rfl
  · obtain ⟨b, n, s, v, d, rfl, ⟨dx, ps, po, hb, hs, ho⟩, hd, q⟩ := h
    refine ⟨_, pss_one (ps_ret (pe_and (pe_callB call_isi (by rfl) T.n_isinstance (by decide +kernel) (pa_cons (pv 1) (pa_cons (pe_bltn (v := .ty "str") (by rfl) T.n_str (by decide +kernel) rfl) pa_nil))) (pe_one (pe_cmpR op_in_seq (pv 1) (pe_fld (pv 0) rfl) (by with_unfolding_all rfl))))), ?_⟩
    refine ⟨v, rfl, v, .ty "str", .type (tnD d), .type "str", isStrD d, rfl, .ty _, dp_ty hd, kd_str, _, rfl, ?_⟩
    cases h1 : isStrD d with
    | false =>
      rw [show inBk d s = false by cases d <;> first | rfl | cases h1] at q
      exact iteF q
    | true =>
      obtain ⟨z, rfl, rfl⟩ := str_yes hd h1
      refine iteT ⟨_, rfl, _, rfl, b, A.Book, dx, _, _, rfl, hb, T.Book.cl, T.b_slots, rfl, ps, _, rfl, .inr hs.sqT, rfl, flat_sV, ?_⟩
      rw [show (if false = true then !inV (V.str z) (s.1.map sV) else inV (V.str z) (s.1.map sV)) = decide (some z ∈ s.1) from in_sV (some z) s.1]
      exact q
def spPlaceOf (K : PySem.W.Frag) (A : Ad) : Sp := fun vs H Q _ => ∃ b n s v d, vs = [.ref b, v] ∧ BkAt K A H b n s ∧ Dp K H v d ∧ Q (oV (placeD d s)) H
theorem ok_placeOf {f : Addr} {fd : FuncData} (F : Fun K "place_of" "Book.place_of" s_Book_place_of f fd) (T : Txt K mg A) (O_Book_contains : OwnM P w K mg base CX0 A.Book "__contains__" 1 pm_Book_contains (spIn K A)) : FnOk P w K mg base CX0 2 f fd pm_Book_place_of (spPlaceOf K A) := by
  refine F.ok sc_Book_place_of (fun vs H Q E h => ?_) (fun cdv A' outer s H vs Q E hr h => ?_)
  · obtain ⟨_, _, _, _, _, rfl, _⟩ := h
    rfl
  · obtain ⟨b, n, s, v, d, rfl, hB, hd, q⟩ := h
    refine ⟨_, pss_one (ps_ret (pe_ifExp (pt_cmpR (inO O_Book_contains (hr.mono (by decide)) pass0) (pv 1) (pv 0) (by with_unfolding_all rfl)) (pe_tm PySem.F.slot_tuple_index PySem.F.type_tuple_index mt_tupIndex (pe_fld (pv 0) rfl) (pa_cons (pv 1) pa_nil)) (pe_non))), ?_⟩
    obtain ⟨dx, ps, po, hb, hs, ho⟩ := id hB
    refine ⟨_, rfl, _, rfl, b, dx, _, rfl, hb, b, n, s, v, d, rfl, hB, hd, _, rfl, _, rfl, ?_⟩
    cases h1 : inBk d s with
    | false =>
      refine iteF ?_
      have e : placeD d s = none := by
        cases d <;> first | rfl | skip
        exact if_neg (of_decide_eq_false h1)
      rw [e] at q
      exact q
    | true =>
      cases d <;> first | cases h1 | skip
      rename_i x
      cases hd
      have hm : some x ∈ s.1 := of_decide_eq_true h1
      have e : placeD (.str x) s = some (at1 s.1 (some x)) := if_pos hm
      rw [e] at q
      obtain ⟨a1, a2⟩ := at_sV hm
      exact iteT ⟨_, rfl, b, A.Book, dx, _, _, rfl, hb, T.Book.cl, T.b_slots, rfl, ps, _, rfl, hs, _, rfl, ps, _, .str x, _, _, rfl, rfl, hs.sqT, rfl, flat_sV, a1, by show eqV (sV (some x)) (sV (some x)) = true; rw [eq_sV]; exact decide_eq_true rfl, a2, q⟩
def spNextPlace (K : PySem.W.Frag) (A : Ad) : Sp := fun vs H Q _ => ∃ b n s, vs = [.ref b] ∧ BkAt K A H b n s ∧ Good n s ∧ Q (oV (nextP s)) H
def spLen (K : PySem.W.Frag) (A : Ad) : Sp := fun vs H Q _ => ∃ b n s, vs = [.ref b] ∧ BkAt K A H b n s ∧ Q (.int (s.2.length : Int)) H
theorem ok_len {f : Addr} {fd : FuncData} (F : Fun K "__len__" "Book.__len__" s_Book_len f fd) (T : Txt K mg A) : FnOk P w K mg base CX0 1 f fd pm_Book_len (spLen K A) := by
  refine F.ok sc_Book_len (fun vs H Q E h => ?_) (fun cdv A' outer s H vs Q E hr h => ?_)
  · obtain ⟨_, _, _, rfl, _⟩ := h
    rfl
  · obtain ⟨b, n, s, rfl, ⟨dx, ps, po, hb, hs, ho⟩, q⟩ := h
    refine ⟨_, pss_one (ps_ret (pe_callB call_len_seq (by rfl) T.n_len (by decide +kernel) (pa_cons (pe_fld (pv 0) rfl) pa_nil))), ?_⟩
    refine ⟨_, rfl, b, A.Book, dx, _, _, rfl, hb, T.Book.cl, T.b_order, rfl, po, _, rfl, .inr ho, ?_⟩
    rw [List.length_map]
    exact q
def spEq (K : PySem.W.Frag) (A : Ad) : Sp := fun vs H Q _ => ∃ b n s v, vs = [.ref b, v] ∧ BkAt K A H b n s ∧ Good n s ∧
  ((∃ c m t, v = .ref c ∧ BkAt K A H c m t ∧ Good m t ∧ Q (.bl (decide (n = m ∧ s = t))) H) ∨ ∃ d, Dp K H v d ∧ Q (.bl false) H)
theorem ok_eq {f : Addr} {fd : FuncData} (F : Fun K "__eq__" "Book.__eq__" s_Book_eq f fd) (T : Txt K mg A) : FnOk P w K mg base CX0 1 f fd pm_Book_eq (spEq K A) := by
  refine F.ok sc_Book_eq (fun vs H Q E h => ?_) (fun cdv A' outer s H vs Q E hr h => ?_)
  · obtain ⟨_, _, _, _, rfl, _⟩ := h
    rfl
  · obtain ⟨b, n, s, v, rfl, ⟨dx, ps, po, hb, hs, ho⟩, g, h⟩ := h
    refine ⟨_, pss_cons (ps_if (pt_not (pt_val (pe_callB call_isi (by rfl) T.n_isinstance (by decide +kernel) (pa_cons (pv 1) (pa_cons (pe_gcls T.Book.gC) pa_nil))))) (pss_one (ps_ret (pe_bl))) (pss_nil))
      (pss_one (ps_ret (pe_and (pe_cmpR op_eq (pe_fld (pv 0) rfl) (pe_fld (pv 1) rfl) (nomark _)) (pe_and (pe_cmpR (op_eqD hr.units) (pe_fld (pv 0) rfl) (pe_fld (pv 1) rfl) (nomark _)) (pe_one (pe_cmpR (op_eqD hr.units) (pe_fld (pv 0) rfl) (pe_fld (pv 1) rfl) (nomark _))))))), ?_⟩
    rcases h with ⟨c, m, t, rfl, ⟨dy, pt, pp, hc, ht, hp⟩, g2, k⟩ | ⟨d, hd, h⟩
    · refine ⟨_, rfl, _, .ref A.Book, .ref A.Book, .ref A.Book, true, rfl, .own _, T.Book.tyOf hc, T.Book.me, _, rfl, ?_⟩
      refine iteF ?_
      refine ⟨_, rfl, b, A.Book, dx, _, _, rfl, hb, T.Book.cl, T.b_places, rfl, _, rfl, c, A.Book, dy, _, _, rfl, hc, T.Book.cl, T.b_places, rfl, rfl, _, rfl, ?_⟩
      rw [dvi]
      by_cases h1 : n = m
      · rw [decide_eq_true (show (n : Int) = (m : Int) by omega)]
        refine iteT ⟨_, rfl, b, A.Book, dx, _, _, rfl, hb, T.Book.cl, T.b_slots, rfl, _, rfl, c, A.Book, dy, _, _, rfl, hc, T.Book.cl, T.b_slots, rfl, eqD_tup hs.sqT ht.sqT (fl_sV g) (fl_sV g2) ⟨_, rfl, ?_⟩⟩
        rw [eqv_sV]
        by_cases h2 : s.1 = t.1
        · rw [decide_eq_true h2]
          refine iteT ⟨_, rfl, b, A.Book, dx, _, _, rfl, hb, T.Book.cl, T.b_order, rfl, _, rfl, c, A.Book, dy, _, _, rfl, hc, T.Book.cl, T.b_order, rfl, eqD_tup ho hp fl_nI fl_nI ?_⟩
          rw [eqv_nI]
          have e : decide (n = m ∧ s = t) = decide (s.2 = t.2) := by
            rw [decide_eq_decide]
            exact ⟨fun z => by rw [z.2], fun z => ⟨h1, Prod.ext h2 z⟩⟩
          rw [e] at k
          exact k
        · rw [decide_eq_false h2]
          rw [decide_eq_false fun z => h2 (by rw [z.2])] at k
          exact iteF k
      · rw [decide_eq_false (show ¬ (n : Int) = (m : Int) by omega)]
        rw [decide_eq_false fun z => h1 z.1] at k
        exact iteF k
    · refine ⟨_, rfl, _, .ref A.Book, .type (tnD d), .ref A.Book, false, rfl, .own _, dp_ty hd, T.Book.kitB (sub_ty_ref kd_find) rfl, _, rfl, ?_⟩
      exact iteT h
end
end K02

set_option Elab.async false
set_option maxRecDepth 100000
set_option maxHeartbeats 4000000
namespace K02
open PySem PySem.Spec PyProof.Rows L2
theorem held_V : ∀ S : List (Option Str), (S.map sV).filter (fun v => !decide (v = .non)) = (S.filterMap id).map V.str
  | [] => rfl
  | none :: S => by
    rw [List.map_cons, List.filter_cons, List.filterMap_cons]
    exact held_V S
  | some s :: S => by
    rw [List.map_cons, List.filter_cons, List.filterMap_cons]
    show V.str s :: (S.map sV).filter _ = V.str s :: (S.filterMap id).map V.str
    rw [held_V S]
def getV (S : List (Option Str)) (v : V) : V := match v with | .int i => ((S.map sV)[i.toNat]?).getD .non | _ => .non
theorem names_at {n : Nat} {s : St Str} {ns : List Str} (o : Ok n s ns) : ∃ us : List Str, (s.2.map nI).map (getV s.1) = us.map V.str ∧ us.length = s.2.length ∧ (∀ j i : Nat, s.2[j]? = some i → us[j]? = ns[i]?) ∧ ∀ x, x ∈ us → x ∈ ns := by
  refine ⟨s.2.map fun i => (ns[i]?).getD "", ?_, by rw [List.length_map], fun j i hj => ?_, fun x hx => ?_⟩
  · rw [List.map_map, List.map_map]
    refine List.map_congr_left fun i hi => ?_
    have hl := o.omem.mp hi
    show (((s.1.map sV)[(i : Int).toNat]?).getD .non) = V.str _
    rw [show (i : Int).toNat = i by omega, List.getElem?_map, o.get hl]
    show V.str ns[i] = V.str ((ns[i]?).getD "")
    rw [List.getElem?_eq_getElem hl]
    rfl
  · have hl := o.omem.mp (List.mem_of_getElem? hj)
    rw [List.getElem?_map, hj]
    show some ((ns[i]?).getD "") = ns[i]?
    rw [List.getElem?_eq_getElem hl]
    rfl
  · obtain ⟨i, hi, rfl⟩ := List.mem_map.mp hx
    have hl := o.omem.mp hi
    rw [List.getElem?_eq_getElem hl]
    exact List.getElem_mem hl
section
variable {P : Program} {w : World} {K : PySem.W.Frag} {mg : Str → Option Value} {base : Heap} {A : Ad}
theorem mk_book {H1 : Hp} {v : V} {du : PyData} {n : Nat} {us : List Str} {R : VK} {E : XK} {x0 dx : Addr} (hx0 : H1 x0 = none) (hdx : H1 dx = none) (hne : dx ≠ x0) (hn : n ≤ 4) (hv : Dp K H1 v du) (hit : itemsD du = some (us.map PyData.str)) (hus : ∀ u, u ∈ us → nameS u = true)
    (q : ∀ H', Ext H1 H' → BkAt K A H' x0 n (run n us) → R .non H') : spBookInit K A [.ref x0, .int (n : Int), v] (upd (upd H1 dx (.own x0)) x0 (.ins A.Book dx [])) R E := by
  have e0 := (Ext.upd (o := .own x0) hdx).upd' (o := .ins A.Book dx []) (by rw [upd_ne hne.symm]; exact hx0)
  have hb : betD (.int (n : Int)) 0 4 = true := by
    rw [bet_int, decide_eq_true (show (0 : Int) ≤ n by omega), decide_eq_true (show (n : Int) ≤ 4 by omega)]
    rfl
  have hsq : isSeqD du = true := by cases du <;> first | rfl | cases hit
  refine ⟨x0, dx, _, v, .int (n : Int), du, rfl, upd_same, .int _, dp_ext e0 _ _ hv, fun ds hd x hx => ?_, fun z => (by rw [hb] at z; cases z), fun _ z => (by rw [hsq] at z; cases z), fun _ ds i hd hbad => ?_, fun m us' hm _ hd _ H' hB hE => ?_⟩
  · rw [hit] at hd
    cases hd
    obtain ⟨u, hu, rfl⟩ := List.mem_map.mp hx
    have := name_len (hus u hu)
    show u.length ≤ 1000
    omega
  · rw [hit] at hd
    cases hd
    rw [names_ok hus] at hbad
    cases hbad
  · rw [hit] at hd
    have e1 : us.map PyData.str = us'.map PyData.str := Option.some.inj hd
    have e2 : us = us' := by
      have := congrArg (List.filterMap fun d => match d with | PyData.str s => some s | _ => none) e1
      rw [List.filterMap_map, List.filterMap_map] at this
      have z : ∀ l : List Str, l.filterMap ((fun d => match d with | PyData.str s => some s | _ => none) ∘ PyData.str) = l := fun l => List.filterMap_some
      rw [z, z] at this
      exact this
    have e3 : (n : Int) = (m : Int) := by injection hm
    have e4 : n = m := by omega
    subst e4 e2
    exact q H' (fun a o h => hE a o (ne_of_none h hx0) (e0 a o h)) hB
def ErrN (A : Ad) (E : XK) (H : Hp) (v : V) : Prop := ∀ H', Ext H H' → ∀ e, H' e = none → E (.ref A.BadName) (some e) (upd H' e (.xd [("name", v)]))
def spUsed (K : PySem.W.Frag) (A : Ad) : Sp := fun vs H Q E => ∃ b n s v d, vs = [.ref b, v] ∧ BkAt K A H b n s ∧ Good n s ∧ Dp K H v d ∧ SmD d ∧ (nameD d = false → ErrN A E H v) ∧ ∀ h, d = .str h → nameS h = true → ∀ b' H', Ext H H' → BkAt K A H' b' n (step s h) → Q (.ref b') H'
theorem ok_used {f : Addr} {fd : FuncData} (F : Fun K "used" "Book.used" s_Book_used f fd) (T : Txt K mg A) (O_is_name : Own P w K mg base CX0 "is_name" 1 pm_is_name (spName K)) (X_BadName : XCls P w K mg base "BadName" "name" A.BadName)
    (O_Book : OwnC P w K mg base (L2.CX P w) "Book" A.Book 5 pm_Book_init (spBookInit K A)) : FnOk P w K mg base (L2.CX P w) 7 f fd pm_Book_used (spUsed K A) := by
  refine F.okX sc_Book_used (fun vs H Q E h => ?_) (fun cdv A' outer sh H vs Q E hr h => ?_)
  · obtain ⟨_, _, _, _, _, rfl, _⟩ := h
    rfl
  · obtain ⟨b, n, s, v, d, rfl, hB, g, hd, hsm, hE, q⟩ := h
    refine ⟨_, pss_cons (ps_if (pt_not (pt_val (pe_own O_is_name (hr.mono (by decide)) pass0 (pa_cons (pv 1) pa_nil)))) (pss_one (ps_raise rfl (takes_of rfl rfl rfl rfl) (pmk_X X_BadName (hr.mono (by decide)) (pv 1) rfl))) (pss_nil))
      (pss_cons (ps_setLc (i := 2) (own := [("old", 4)]) (g := gName 4) (by rfl) sc_Book_used.nd rfl rfl (sw_true rfl rfl rfl (by decide +kernel)) (pi_sq (pe_fld (pv 0) rfl)) (blkOk_by (own := [("old", 4)]) (N := nm_Book_used) (sc := defScope s_Book_used) (by decide +kernel)) (fun _ _ _ _ _ => pg_name (i := 4) sc_Book_used.nd rfl (Or.inl rfl)) (fun s1 H1 C1 cl fp => pts_one (pt_cmpR op_notN (pv 4) (pe_non) (nomark _))) (fun s1 H1 C1 cl fp => pv 4))
      (pss_cons (ps_setLc (i := 3) (own := [("place", 5)]) (g := gName 5) (by rfl) sc_Book_used.nd rfl rfl (sw_true rfl rfl rfl (by decide +kernel)) (pi_sq (pe_fld (pv 0) rfl)) (blkOk_by (own := [("place", 5)]) (N := nm_Book_used) (sc := defScope s_Book_used) (by decide +kernel)) (fun _ _ _ _ _ => pg_name (i := 5) sc_Book_used.nd rfl (Or.inl rfl)) (fun s1 H1 C1 cl fp => pts_nil) (fun s1 H1 C1 cl fp => pe_ix (ix_tupK (K := K) rfl) (pe_fldK (K := K) rfl (pv 0) rfl) (pv 5) (fun _ _ => rfl)))
      (pss_one (ps_ret (pe_new O_Book (hr.mono (by decide)) passL (pa_cons (pe_fld (pv 0) rfl) (pa_cons (pe_lst (StX.pa_star (pv 2) (StX.pa_star (pv 3) (pa_cons (pv 1) pa_nil)))) pa_nil))))))), ?_⟩
    refine ⟨v, rfl, v, d, rfl, hd, hsm, fun H1 e1 => ⟨_, rfl, ?_⟩⟩
    cases h1 : nameD d with
    | false => exact iteT ⟨_, rfl, mkX_fin fun e he => hE h1 _ e1 e he⟩
    | true =>
      cases d <;> first | cases h1 | skip
      rename_i h
      cases hd
      obtain ⟨dx, ps, po, hb, hs, ho⟩ := hB.ext e1
      obtain ⟨hn, ns, ok, hns⟩ := id g
      have hh : nameS h = true := h1
      refine iteF ⟨_, rfl, b, A.Book, dx, _, _, rfl, hb, T.Book.cl, T.b_slots, rfl, ps, rfl, lc_sqG (xs := s.1.map sV) (f := fun v => v) (b := fun v => !decide (v = .non)) (.inr hs.sqT) ?_ (fun _ => rfl) (fun x hx H4 e4 Q' hq => ?_) (fun x _ _ H4 e4 Q' hq => ?_) (fun D2 H2 hD2 e2 hl2 => ?_)⟩
      · rw [List.length_map, ok.len]
        exact small_sz (by omega)
      · exact ⟨_, rfl, rfl, _, rfl, hq _ Ext.rfl'⟩
      · exact ⟨_, rfl, hq _ Ext.rfl'⟩
      · rw [List.map_id', held_V, held_names ok] at hl2
        obtain ⟨us, u1, u2, u3, u4⟩ := names_at ok
        refine ⟨_, rfl, b, A.Book, dx, _, _, rfl, e2 _ _ hb, T.Book.cl, T.b_order, rfl, po, rfl, lc_sqG (xs := s.2.map nI) (f := getV s.1) (b := fun _ => true) (.inr (ho.ext e2)) ?_ (fun _ => rfl) (fun x hx H4 e4 Q' hq => ?_) (fun x hx _ H4 e4 Q' hq => ?_) (fun D3 H3 hD3 e3 hl3 => ?_)⟩
        · rw [List.length_map, ok.olen]
          have := ok.le
          exact small_sz (by omega)
        · exact hq _ Ext.rfl'
        · obtain ⟨i, hi, rfl⟩ := List.mem_map.mp hx
          have hl := ok.omem.mp hi
          refine ⟨_, rfl, b, A.Book, dx, _, _, rfl, (e2.trans e4) _ _ hb, T.Book.cl, T.b_slots, rfl, _, rfl, ps, _, (i : Int), _, rfl, rfl, (hs.ext (e2.trans e4)).sqT, ?_, hq _ Ext.rfl'⟩
          refine atI_nat ?_
          show _ = some (((s.1.map sV)[(i : Int).toNat]?).getD .non)
          rw [show (i : Int).toNat = i by omega, List.getElem?_map, ok.get hl]
          rfl
        · rw [L2.filter_all, u1] at hl3
          refine ⟨_, rfl, b, A.Book, dx, _, _, rfl, (e2.trans e3) _ _ hb, T.Book.cl, T.b_places, rfl, ?_⟩
          have hw := e3 _ _ hl2
          refine ⟨_, rfl, D2, _, rfl, .inr (SqL.of hw), _, rfl, D3, _, rfl, .inr (SqL.of hl3), _, rfl, ?_, fun D4 hD4 => ?_⟩
          · rw [List.length_append, List.length_append, List.length_map, List.length_map, u2, ok.olen]
            have := ok.le
            exact Nat.le_of_lt (small_sz (by show _ + (_ + 1) ≤ 2000; omega))
          · have e5 : ns.map V.str ++ (us.map V.str ++ [V.str h]) = (ns ++ us ++ [h]).map V.str := by
              rw [List.map_append, List.map_append, List.append_assoc]
              rfl
            rw [e5]
            refine fun x0 dn hx0 hdx0 hne0 => mk_book hx0 hdx0 hne0 hn (.lst (SqL.of upd_same) str_dps) rfl (fun u hu => ?_) fun H' e' hk => ⟨rfl, ?_⟩
            · rcases List.mem_append.mp hu with hu | hu
              · rcases List.mem_append.mp hu with hu | hu
                · exact hns u hu
                · exact hns u (u4 u hu)
              · rw [List.mem_singleton.mp hu]
                exact hh
            · rw [rebuilt ok u2 u3 h] at hk
              exact q h rfl hh _ _ ((((e1.trans e2).trans e3).trans (Ext.upd hD4)).trans e') hk
end
end K02

set_option Elab.async false
set_option maxRecDepth 100000
set_option maxHeartbeats 4000000
namespace K02
open PySem PySem.Spec PyProof.Rows L2
/-- the word for h -/
def wordV (s : St Str) (h : Str) : List V := if some h ∈ s.1 then [.str "short", nI (at1 s.1 (some h))] else [.str "long", .str h]
def readD (d : PyData) (n : Nat) (s : St Str) : Option Str := if wordD d = true then (match d with
  | .tuple [.str k, x] => if k = "long" then (match x with | .str h => some h | _ => none) else (match x with | .int i => if i < (n : Int) then (s.1[i.toNat]?).join else none | _ => none)
  | _ => none) else none
theorem word_shape {d : PyData} (h : wordD d = true) : (∃ i : Int, d = .tuple [.str "short", .int i] ∧ 0 ≤ i ∧ i ≤ 3) ∨ ∃ x, d = .tuple [.str "long", .str x] ∧ nameS x = true := by
  have shape : ∀ wd, toldD d wd 2 = true → ∃ d1, d = .tuple [.str wd, d1] := by
    clear h
    intro wd h
    unfold toldD at h
    split at h
    · rename_i s ds
      rw [Bool.and_eq_true, decide_eq_true_eq, decide_eq_true_eq] at h
      obtain ⟨h1, rfl⟩ := h
      match ds, h1 with
      | [d1], _ => exact ⟨d1, rfl⟩
    · cases h
  unfold wordD at h
  by_cases h1 : toldD d "short" 2 = true
  · rw [if_pos h1] at h
    obtain ⟨d1, rfl⟩ := shape _ h1
    obtain ⟨i, hi, a, b⟩ := bet_yes (show betD d1 0 3 = true from h)
    exact .inl ⟨i, by rw [hi], a, b⟩
  · rw [if_neg h1, Bool.and_eq_true] at h
    obtain ⟨d1, rfl⟩ := shape _ h.1
    have z : nameD d1 = true := h.2
    cases d1 <;> first | cases z | exact .inr ⟨_, rfl, z⟩
theorem read_name {d : PyData} {n : Nat} {s : St Str} (g : Good n s) {h : Str} (e : readD d n s = some h) : nameS h = true := by
  unfold readD at e
  by_cases h1 : wordD d = true
  · rw [if_pos h1] at e
    rcases word_shape h1 with ⟨i, rfl, _, _⟩ | ⟨x, rfl, hx⟩
    · dsimp only at e
      rw [if_neg (by decide)] at e
      by_cases h2 : i < (n : Int)
      · rw [if_pos h2] at e
        obtain ⟨_, ns, ok, hs⟩ := g
        refine hs h (ok.mem.mp ?_)
        cases hq : s.1[i.toNat]? with
        | none => rw [hq] at e; cases e
        | some o =>
          rw [hq] at e
          have e' : o = some h := e
          rw [← e']
          exact List.mem_of_getElem? hq
      · rw [if_neg h2] at e
        cases e
    · dsimp only at e
      rw [if_pos rfl] at e
      cases e
      exact hx
  · rw [if_neg h1] at e
    cases e
section
variable {P : Program} {w : World} {K : PySem.W.Frag} {mg : Str → Option Value} {base : Heap} {A : Ad}
def spWordFor (K : PySem.W.Frag) (A : Ad) : Sp := fun vs H Q E => ∃ b n s v d, vs = [.ref b, v] ∧ BkAt K A H b n s ∧ Dp K H v d ∧ SmD d ∧ (nameD d = false → ErrN A E H v) ∧ ∀ h, d = .str h → nameS h = true → ∀ t H', Ext H H' → H' t = some (.tup (wordV s h)) → Q (.ref t) H'
theorem ok_wordFor {f : Addr} {fd : FuncData} (F : Fun K "word_for" "Book.word_for" s_Book_word_for f fd) (T : Txt K mg A) (O_is_name : Own P w K mg base CX0 "is_name" 1 pm_is_name (spName K)) (X_BadName : XCls P w K mg base "BadName" "name" A.BadName)
    (O_Book_place_of : OwnM P w K mg base CX0 A.Book "place_of" 2 pm_Book_place_of (spPlaceOf K A)) : FnOk P w K mg base (L2.CX P w) 4 f fd pm_Book_word_for (spWordFor K A) := by
  refine F.okX sc_Book_word_for (fun vs H Q E h => ?_) (fun cdv A' outer sh H vs Q E hr h => ?_)
  · obtain ⟨_, _, _, _, _, rfl, _⟩ := h
    rfl
  · obtain ⟨b, n, s, v, d, rfl, hB, hd, hsm, hE, q⟩ := h
    refine ⟨_, pss_cons (ps_if (pt_not (pt_val (pe_own O_is_name (hr.mono (by decide)) pass0 (pa_cons (pv 1) pa_nil)))) (pss_one (ps_raise rfl (takes_of rfl rfl rfl rfl) (pmk_X X_BadName (hr.mono (by decide)) (pv 1) rfl))) (pss_nil))
      (pss_cons (ps_set (i := 2) sc_Book_word_for.nd rfl (Or.inl rfl) (pe_ownM O_Book_place_of (pv 0) T.Book.cl (hr.mono (by decide)) pass0 (pa_cons (pv 1) pa_nil)))
      (pss_one (ps_ret (pe_ifExp (pt_cmpR op_isN (pv 2) (pe_non) (nomark _)) (pe_tup (pa_cons (pe_str) (pa_cons (pv 1) pa_nil))) (pe_tup (pa_cons (pe_str) (pa_cons (pv 2) pa_nil))))))), ?_⟩
    refine ⟨v, rfl, v, d, rfl, hd, hsm, fun H1 e1 => ⟨_, rfl, ?_⟩⟩
    cases h1 : nameD d with
    | false => exact iteT ⟨_, rfl, mkX_fin fun e he => hE h1 _ e1 e he⟩
    | true =>
      cases d <;> first | cases h1 | skip
      rename_i h
      cases hd
      have hB1 := hB.ext e1
      obtain ⟨dx, ps, po, hb, hs, ho⟩ := id hB1
      have q' := q h rfl h1
      refine iteF ⟨_, rfl, b, dx, _, rfl, hb, rfl, _, rfl, b, n, s, _, _, rfl, hB1, .str h, ?_⟩
      refine ⟨_, rfl, rfl, _, rfl, ?_⟩
      rw [nn_oV]
      unfold wordV at q'
      show if decide ((if some h ∈ s.1 then some (at1 s.1 (some h)) else none) = none) = true then _ else _
      by_cases hm : some h ∈ s.1
      · rw [if_pos hm] at q' ⊢
        refine iteF ⟨_, rfl, by show 2 ≤ sizeLine; decide, fun t ht => q' t _ (e1.trans (Ext.upd ht)) ?_⟩
        rw [upd_same]
        show some (HO.tup [V.str "short", oV (if some h ∈ s.1 then some (at1 s.1 (some h)) else none)]) = _
        rw [if_pos hm]
        rfl
      · rw [if_neg hm] at q' ⊢
        exact iteT ⟨_, rfl, by show 2 ≤ sizeLine; decide, fun t ht => q' t _ (e1.trans (Ext.upd ht)) upd_same⟩
def spReadHead (K : PySem.W.Frag) (A : Ad) : Sp := fun vs H Q _ => ∃ b n s v d, vs = [.ref b, v] ∧ BkAt K A H b n s ∧ Good n s ∧ Dp K H v d ∧ SmD (sndD d) ∧ ∀ H', Ext H H' → Q (sV (readD d n s)) H'
theorem ok_readHead {f : Addr} {fd : FuncData} (F : Fun K "read_head" "read_head" s_read_head f fd) (T : Txt K mg A) (O_is_word : Own P w K mg base CX0 "is_word" 4 pm_is_word (spWord K))
    (O_Book_held : OwnM P w K mg base CX0 A.Book "held" 1 pm_Book_held (spHeld K A)) : FnOk P w K mg base CX0 5 f fd pm_read_head (spReadHead K A) := by
  refine F.ok sc_read_head (fun vs H Q E h => ?_) (fun cdv A' outer sh H vs Q E hr h => ?_)
  · obtain ⟨_, _, _, _, _, rfl, _⟩ := h
    rfl
  · obtain ⟨b, n, s, v, d, rfl, hB, g, hd, hsm, q⟩ := h
    refine ⟨_, pss_cons (ps_if (pt_not (pt_val (pe_own O_is_word (hr.mono (by decide)) pass0 (pa_cons (pv 1) pa_nil)))) (pss_one (ps_ret (pe_non))) (pss_nil))
      (pss_cons (ps_if (pt_cmpR op_eq (pe_ix ix_tup (pv 1) (pe_int) (fun _ _ => rfl)) (pe_str) (nomark _)) (pss_one (ps_ret (pe_ix ix_tup (pv 1) (pe_int) (fun _ _ => rfl)))) (pss_nil))
      (pss_one (ps_ret (pe_ifExp (pt_cmpR op_lt (pe_ix ix_tup (pv 1) (pe_int) (fun _ _ => rfl)) (pe_fld (pv 0) rfl) (nomark _)) (pe_ix ix_tup (pe_ownM0 O_Book_held (pv 0) T.Book.cl (hr.mono (by decide)) pass0) (pe_ix ix_tup (pv 1) (pe_int) (fun _ _ => rfl)) (fun _ _ => rfl)) (pe_non))))), ?_⟩
    refine ⟨v, rfl, v, d, rfl, hd, hsm, fun H1 e1 => ⟨_, rfl, ?_⟩⟩
    have q' := q H1 e1
    unfold readD at q'
    cases h1 : wordD d with
    | false =>
      rw [h1, if_neg (by decide)] at q'
      exact iteT q'
    | true =>
      rw [h1, if_pos rfl] at q'
      refine iteF ?_
      obtain ⟨dx, ps, po, hb, hs, ho⟩ := hB.ext e1
      rcases word_shape h1 with ⟨i, rfl, i0, i3⟩ | ⟨x, rfl, hx⟩
      · obtain ⟨p, y, d1, rfl, hp, hy, e⟩ := told_yes (wd := "short") (dp_ext e1 _ _ hd) rfl
        cases e
        cases hy
        dsimp only at q'
        rw [if_neg (by decide)] at q'
        refine ⟨_, rfl, p, _, 0, .str "short", rfl, rfl, hp, rfl, rfl, _, rfl, ?_⟩
        rw [dvs, decide_eq_false (by decide)]
        refine iteF ⟨_, rfl, p, _, 1, .int i, rfl, rfl, hp, rfl, _, rfl, b, A.Book, dx, _, _, rfl, hb, T.Book.cl, T.b_places, rfl, _, _, rfl, rfl, _, rfl, ?_⟩
        by_cases h2 : i < (n : Int)
        · rw [if_pos h2] at q'
          rw [decide_eq_true h2]
          refine iteT ⟨_, rfl, b, dx, _, rfl, hb, rfl, b, dx, ps, po, n, rfl, hb, _, rfl, p, _, 1, .int i, rfl, rfl, hp, rfl, ps, _, i, _, rfl, rfl, hs.sqT, ?_, q'⟩
          obtain ⟨j, rfl⟩ := Int.eq_ofNat_of_zero_le i0
          refine atI_nat ?_
          obtain ⟨_, ns, ok, _⟩ := g
          have hj : j < s.1.length := by
            rw [ok.len]
            omega
          rw [List.getElem?_map, show (j : Int).toNat = j by omega, List.getElem?_eq_getElem hj]
          rfl
        · rw [if_neg h2] at q'
          rw [decide_eq_false h2]
          exact iteF q'
      · obtain ⟨p, y, d1, rfl, hp, hy, e⟩ := told_yes (wd := "long") (dp_ext e1 _ _ hd) rfl
        cases e
        cases hy
        dsimp only at q'
        rw [if_pos rfl] at q'
        refine ⟨_, rfl, p, _, 0, .str "long", rfl, rfl, hp, rfl, rfl, _, rfl, ?_⟩
        rw [dvs, decide_eq_true rfl]
        exact iteT ⟨_, rfl, p, _, 1, .str x, rfl, rfl, hp, rfl, q'⟩
def ErrWd (A : Ad) (E : XK) (H : Hp) (v : V) : Prop := ∀ H', Ext H H' → ∀ e, H' e = none → E (.ref A.BadWord) (some e) (upd H' e (.xd [("word", v)]))
def spHeadFor (K : PySem.W.Frag) (A : Ad) : Sp := fun vs H Q E => ∃ b n s v d, vs = [.ref b, v] ∧ BkAt K A H b n s ∧ Good n s ∧ Dp K H v d ∧ SmD (sndD d) ∧ (readD d n s = none → ErrWd A E H v) ∧ ∀ h, readD d n s = some h → ∀ H', Ext H H' → Q (.str h) H'
theorem ok_headFor {f : Addr} {fd : FuncData} (F : Fun K "head_for" "Book.head_for" s_Book_head_for f fd) (T : Txt K mg A) (O_read_head : Own P w K mg base CX0 "read_head" 5 pm_read_head (spReadHead K A)) (X_BadWord : XCls P w K mg base "BadWord" "word" A.BadWord) :
    FnOk P w K mg base (L2.CX P w) 6 f fd pm_Book_head_for (spHeadFor K A) := by
  refine F.okX sc_Book_head_for (fun vs H Q E h => ?_) (fun cdv A' outer sh H vs Q E hr h => ?_)
  · obtain ⟨_, _, _, _, _, rfl, _⟩ := h
    rfl
  · obtain ⟨b, n, s, v, d, rfl, hB, g, hd, hsm, hE, q⟩ := h
    refine ⟨_, pss_cons (ps_set (i := 2) sc_Book_head_for.nd rfl (Or.inl rfl) (pe_own O_read_head (hr.mono (by decide)) pass0 (pa_cons (pv 0) (pa_cons (pv 1) pa_nil))))
      (pss_cons (ps_if (pt_cmpR op_isN (pv 2) (pe_non) (nomark _)) (pss_one (ps_raise rfl (takes_of rfl rfl rfl rfl) (pmk_X X_BadWord (hr.mono (by decide)) (pv 1) rfl))) (pss_nil))
      (pss_one (ps_ret (pv 2)))), ?_⟩
    refine ⟨_, rfl, v, rfl, b, n, s, v, d, rfl, hB, g, hd, hsm, fun H1 e1 => ⟨_, rfl, rfl, _, rfl, ?_⟩⟩
    rw [nn_sV]
    cases h1 : readD d n s with
    | none => exact iteT ⟨_, rfl, mkX_fin fun e he => hE h1 _ e1 e he⟩
    | some x => exact iteF ⟨_, rfl, q x h1 _ e1⟩
def spCheckBook (K : PySem.W.Frag) (A : Ad) : Sp := fun vs H Q E => ∃ v, vs = [v] ∧ ((∃ b n s, v = .ref b ∧ BkAt K A H b n s ∧ Q .non H) ∨ ∃ d, Dp K H v d ∧ ErrP A E H "book")
theorem ok_checkBook {f : Addr} {fd : FuncData} (F : Fun K "check_book" "check_book" s_check_book f fd) (T : Txt K mg A) (X_BadPart : XCls P w K mg base "BadPart" "part" A.BadPart) : FnOk P w K mg base (L2.CX P w) 3 f fd pm_check_book (spCheckBook K A) := by
  refine F.okX sc_check_book (fun vs H Q E h => ?_) (fun cdv A' outer sh H vs Q E hr h => ?_)
  · obtain ⟨_, rfl, _⟩ := h
    rfl
  · obtain ⟨v, rfl, h⟩ := h
    refine ⟨_, pss_one (ps_if (pt_not (pt_val (pe_callB call_isi (by rfl) T.n_isinstance (by decide +kernel) (pa_cons (pv 0) (pa_cons (pe_gcls T.Book.gC) pa_nil))))) (pss_one (ps_raise rfl (takes_of rfl rfl rfl rfl) (pmk_X X_BadPart (hr.mono (by decide)) (pe_str) rfl))) (pss_nil)), ?_⟩
    rcases h with ⟨b, n, s, rfl, ⟨dx, ps, po, hb, hs, ho⟩, q⟩ | ⟨d, hd, hE⟩
    · refine ⟨_, rfl, _, .ref A.Book, .ref A.Book, .ref A.Book, true, rfl, .own _, T.Book.tyOf hb, T.Book.me, _, rfl, ?_⟩
      exact iteF q
    · refine ⟨_, rfl, _, .ref A.Book, .type (tnD d), .ref A.Book, false, rfl, .own _, dp_ty hd, T.Book.kitB (sub_ty_ref kd_find) rfl, _, rfl, ?_⟩
      exact iteT (mkX_fin fun e he => hE _ Ext.rfl' e he)
end
end K02

set_option Elab.async false
set_option maxRecDepth 100000
set_option maxHeartbeats 4000000
namespace K02
open PySem PySem.Spec PyProof.Rows L2
def told (s : St Str) : List Str → List (List V)
  | [] => []
  | h :: hs => wordV s h :: told (step s h) hs
theorem told_snoc (h : Str) : ∀ (hs : List Str) (s : St Str), told s (hs ++ [h]) = told s hs ++ [wordV (hs.foldl step s) h]
  | [], _ => rfl
  | x :: hs, s => by
    show wordV s x :: told (step s x) (hs ++ [h]) = wordV s x :: (told (step s x) hs ++ _)
    rw [told_snoc h hs]
    rfl
theorem told_len : ∀ (hs : List Str) (s : St Str), (told s hs).length = hs.length
  | [], _ => rfl
  | _ :: hs, _ => congrArg (· + 1) (told_len hs _)
/-- a list's values are tuples of these -/
def Ws (H : Hp) (ws : List V) (ts : List (List V)) : Prop := ws.length = ts.length ∧ ∀ (i : Nat) x t, ws[i]? = some x → ts[i]? = some t → ∃ q, x = .ref q ∧ H q = some (.tup t)
theorem Ws.keep {H H' : Hp} {ws : List V} {ts : List (List V)} (h : Ws H ws ts) (e : ∀ q t, H q = some (.tup t) → H' q = some (.tup t)) : Ws H' ws ts := ⟨h.1, fun i x t a b => by
  obtain ⟨q, r, z⟩ := h.2 i x t a b
  exact ⟨q, r, e q t z⟩⟩
theorem Ws.snoc {H : Hp} {ws : List V} {ts : List (List V)} {q : Addr} {t : List V} (h : Ws H ws ts) (hq : H q = some (.tup t)) : Ws H (ws ++ [.ref q]) (ts ++ [t]) := by
  refine ⟨by rw [List.length_append, List.length_append, h.1]; rfl, fun i x u a b => ?_⟩
  rcases Nat.lt_trichotomy i ws.length with hl | hl | hl
  · rw [List.getElem?_append_left hl] at a
    rw [List.getElem?_append_left (by rw [← h.1]; exact hl)] at b
    exact h.2 i x u a b
  · rw [hl, List.getElem?_append_right (Nat.le_refl _), Nat.sub_self] at a
    rw [hl, h.1, List.getElem?_append_right (Nat.le_refl _), Nat.sub_self] at b
    cases a
    cases b
    exact ⟨q, rfl, hq⟩
  · rw [List.getElem?_eq_none (by rw [List.length_append]; show ws.length + 1 ≤ i; omega)] at a
    cases a
theorem tup_mut {H : Hp} {D q : Addr} {ys t zs : List V} (hD : H D = some (.lst ys)) (hq : H q = some (.tup t)) : upd H D (.lst zs) q = some (.tup t) := by
  rw [upd_ne]
  · exact hq
  · intro e
    rw [e, hD] at hq
    cases hq
def tP (t : List V) : PyData := .tuple (t.map pd)
theorem lay_tP : ∀ {ts : List (List V)}, (∀ t ∈ ts, ∀ v ∈ t, Fl v) → PyData.canLayAll0 (ts.map tP) = true ∧ PyData.depthAll (ts.map tP) ≤ 1
  | [], _ => ⟨rfl, Nat.zero_le _⟩
  | t :: ts, h => by
    obtain ⟨a, b⟩ := lay_tP (ts := ts) fun x hx => h x (List.mem_cons_of_mem _ hx)
    obtain ⟨c, d⟩ := lay_all (h t List.mem_cons_self)
    constructor
    · show (PyData.canLayAll0 (t.map pd) && PyData.canLayAll0 (ts.map tP)) = true
      rw [a, c]
      rfl
    · show max (PyData.depthAll (t.map pd) + 1) (PyData.depthAll (ts.map tP)) ≤ 1
      rw [d]
      exact Nat.max_le.mpr ⟨Nat.le_refl _, b⟩
theorem shp_tP {ts : List (List V)} (h : ∀ t ∈ ts, ∀ v ∈ t, Fl v) : SeqAt.shaped (.list (ts.map tP)) = true := by
  obtain ⟨a, b⟩ := lay_tP h
  show (PyData.canLayAll0 (ts.map tP) && decide (PyData.depthAll (ts.map tP) + 1 ≤ 64)) = true
  rw [a, decide_eq_true (by omega)]
  rfl
theorem eqv_tP : ∀ {ts : List (List V)}, (∀ t ∈ ts, ∀ v ∈ t, Fl v) → PyData.eqvAll (ts.map tP) (ts.map tP) = true
  | [], _ => rfl
  | t :: ts, h => by
    show (PyData.eqvAll (t.map pd) (t.map pd) && PyData.eqvAll (ts.map tP) (ts.map tP)) = true
    rw [eqv_same (h t List.mem_cons_self), eqv_tP (ts := ts) fun x hx => h x (List.mem_cons_of_mem _ hx)]
    rfl
def readI (n : Nat) : St Str → List PyData → List Str × Bool
  | _, [] => ([], true)
  | s, d :: ds => match readD d n s with
    | none => ([], false)
    | some h => (h :: (readI n (step s h) ds).1, (readI n (step s h) ds).2)
section
variable {P : Program} {w : World} {K : PySem.W.Frag} {mg : Str → Option Value} {base : Heap} {A : Ad}
theorem ws_dp {H : Hp} : ∀ {ws : List V} {ts : List (List V)}, Ws H ws ts → (∀ t ∈ ts, ∀ v ∈ t, Fl v) → DpAll K H ws (ts.map tP)
  | [], [], _, _ => .nil
  | [], _ :: _, h, _ => nomatch h.1
  | _ :: _, [], h, _ => nomatch h.1
  | w :: ws, t :: ts, h, hf => by
    obtain ⟨q, rfl, hq⟩ := h.2 0 w t rfl rfl
    exact .cons (.tup (SqT.of hq) (dp_all (hf t List.mem_cons_self))) (ws_dp ⟨Nat.succ.inj h.1, fun i x u a b => h.2 (i + 1) x u a b⟩ fun x hx => hf x (List.mem_cons_of_mem _ hx))
theorem bk_mut {H : Hp} {b D : Addr} {n : Nat} {s : St Str} {ys zs : List V} (hD : H D = some (.lst ys)) (h : BkAt K A H b n s) : BkAt K A (upd H D (.lst zs)) b n s := by
  obtain ⟨dx, ps, po, h1, ⟨o, h2, h2'⟩, h3⟩ := h
  have ne : ∀ {a : Addr} {u : HO}, H a = some u → u ≠ .lst ys → a ≠ D := fun ha hu e => by
    rw [e, hD] at ha
    cases ha
    exact hu rfl
  refine ⟨dx, ps, po, by rw [upd_ne (ne h1 (fun z => nomatch z))]; exact h1, ⟨o, by rw [upd_ne (ne h2 (fun z => nomatch z))]; exact h2, h2'⟩, ?_⟩
  rcases h3 with (h3 | ⟨o3, h3⟩) | h3
  · exact .inl (.inl (by rw [upd_ne (ne h3 (fun z => nomatch z))]; exact h3))
  · exact .inl (.inr ⟨o3, by rw [upd_ne (ne h3 (fun z => nomatch z))]; exact h3⟩)
  · exact .inr h3
structure WriteS (K : PySem.W.Frag) (A : Ad) (vs : List V) (H : Hp) (Q : VK) (E : XK) : Prop where
  h :∃ (v u : V) (du : PyData), vs = [v, u] ∧ Dp K H u du ∧ (∀ ds, itemsD du = some ds → ds.length ≤ 1000 ∧ ∀ x ∈ ds, SmD x) ∧
  ((∃ d, Dp K H v d ∧ ErrP A E H "book") ∨ ∃ b n s, v = .ref b ∧ BkAt K A H b n s ∧ Good n s ∧ (isSeqD du = false → ErrH A E H .non) ∧ (∀ ds i, itemsD du = some ds → badAt ds = some i → ErrH A E H (.int (i : Nat))) ∧
    ∀ hs : List Str, itemsD du = some (hs.map PyData.str) → (∀ h, h ∈ hs → nameS h = true) → ∀ q D c ws H', Ext H H' → H D = none → H' q = some (.tup [.ref D, .ref c]) → H' D = some (.lst ws) → Ws H' ws (told s hs) → BkAt K A H' c n (hs.foldl step s) → Q (.ref q) H')
def spWrite (K : PySem.W.Frag) (A : Ad) : Sp := fun vs H Q E => WriteS K A vs H Q E
theorem ok_write {f : Addr} {fd : FuncData} (F : Fun K "write_heads" "write_heads" s_write_heads f fd) (T : Txt K mg A) (O_check_book : Own P w K mg base (L2.CX P w) "check_book" 3 pm_check_book (spCheckBook K A)) (O_check_heads : Own P w K mg base (L2.CX P w) "check_heads" 3 pm_check_heads (spHeads K A))
    (O_Book_word_for : OwnM P w K mg base (L2.CX P w) A.Book "word_for" 4 pm_Book_word_for (spWordFor K A)) (O_Book_used : OwnM P w K mg base (L2.CX P w) A.Book "used" 7 pm_Book_used (spUsed K A)) : FnOk P w K mg base (L2.CX P w) 8 f fd pm_write_heads (spWrite K A) := by
  refine F.okX sc_write_heads (fun vs H Q E h => ?_) (fun cdv A' outer sh H vs Q E hr h => ?_)
  · obtain ⟨_, _, _, rfl, _⟩ := h.h
    rfl
  · obtain ⟨v, u, du, rfl, hu, hsm, h⟩ := h.h
    refine ⟨_, pss_cons (ps_expr (pe_ownS O_check_book (hr.mono (by decide)) (takes_of rfl rfl rfl rfl) (pa_cons (pv 0) pa_nil)))
      (pss_cons (ps_expr (pe_ownS O_check_heads (hr.mono (by decide)) (takes_of rfl rfl rfl rfl) (pa_cons (pv 1) pa_nil)))
      (pss_cons (ps_set (i := 2) sc_write_heads.nd rfl (Or.inl rfl) (pe_lst (pa_nil)))
      (pss_cons (ps_for (passes_of rfl) rfl (pi_sq (pv 1)) (pg_name (i := 3) sc_write_heads.nd rfl (Or.inl rfl)) (pss_cons (ps_expr (pe_bm PySem.F.plainAttrs_list PySem.F.slot_list_append PySem.F.type_list_append mt_append (pv 2) (pa_cons (pe_ownM O_Book_word_for (pv 0) T.Book.cl (hr.mono (by decide)) passL (pa_cons (pv 3) pa_nil)) pa_nil)))
      (pss_one (ps_set (i := 0) sc_write_heads.nd rfl (Or.inl rfl) (pe_ownM O_Book_used (pv 0) T.Book.cl (hr.mono (by decide)) passL (pa_cons (pv 3) pa_nil))))))
      (pss_one (ps_ret (pe_tup (pa_cons (pv 2) (pa_cons (pv 0) pa_nil)))))))), ?_⟩
    rcases h with ⟨d, hd, hE⟩ | ⟨b, n, s, rfl, hB, g, q1, q2, q3⟩
    · exact ⟨_, rfl, v, rfl, .inr ⟨d, hd, hE⟩⟩
    · refine ⟨_, rfl, _, rfl, .inl ⟨b, n, s, rfl, hB, ?_⟩⟩
      refine ⟨u, rfl, u, du, rfl, hu, fun ds hd => (hsm ds hd).2, q1, q2, fun ds hit hbad H1 e1 => ?_⟩
      obtain ⟨hs, rfl, hhs⟩ := names_yes hbad
      have q4 := q3 hs hit hhs
      clear q1 q2 q3
      have hl := (hsm _ hit).1
      rw [List.length_map] at hl
      have hsq : isSeqD du = true := by cases du <;> first | rfl | cases hit
      obtain ⟨a, xs, ds', rfl, hx, ha, hd⟩ := dp_seq (dp_ext e1 _ _ hu) hsq
      have he : ds' = hs.map PyData.str := by
        rcases hd with rfl | rfl
        · exact Option.some.inj hit
        · exact Option.some.inj hit
      subst he
      obtain rfl := dps_str ha
      refine ⟨by decide, fun D hD => ?_⟩
      have hD0 := ext_none e1 hD
      refine ⟨_, rfl, a, rfl, ?_⟩
      refine for_sqM (H0 := H1) (xs := hs.map V.str) hx (fun i σ' H' => Ext H1 H' ∧ ∃ c o3 ws, σ' = [some (.ref c), some (.ref a), some (.ref D), o3] ∧ H' D = some (.lst ws) ∧ Ws H' ws (told s (hs.take i)) ∧ BkAt K A H' c n ((hs.take i).foldl step s) ∧ Good n ((hs.take i).foldl step s))
        ⟨Ext.upd hD, b, _, [], rfl, upd_same, ⟨rfl, fun i x t h => nomatch h⟩, (hB.ext e1).ext (Ext.upd hD), g⟩ (fun i σ' H' pv => pv.1) (fun i x σ' H' hi pv => ?_) (fun σ' H' pv => ?_)
      · obtain ⟨e, c, o3, ws, rfl, hDl, hw, hc, gc⟩ := pv
        rw [List.getElem?_map] at hi
        obtain ⟨h, hh, rfl⟩ := Option.map_eq_some_iff.mp hi
        have hn := hhs h (List.mem_of_getElem? hh)
        have hsm1 : SmD (.str h) := by
          have := name_len hn
          show h.length ≤ 1000
          omega
        have hnm : nameD (.str h) = true := hn
        rw [take_snoc hh, told_snoc, List.foldl_append]
        have hwl : ws.length = i := by
          rw [hw.1, told_len, List.length_take]
          have := (List.getElem?_eq_some_iff.mp hh).1
          omega
        have hil := (List.getElem?_eq_some_iff.mp hh).1
        generalize (hs.take i).foldl step s = R at hc gc ⊢
        generalize told s (hs.take i) = ts at hw ⊢
        obtain ⟨dx, ps, po, hb, _, _⟩ := id hc
        refine ⟨_, rfl, .inl ⟨rfl, _, SqL.of hDl⟩, _, rfl, c, dx, _, rfl, hb, rfl, _, rfl, c, n, R, _, .str h, rfl, hc, .str h, hsm1, fun z => (by rw [hnm] at z; cases z), fun h' eh _ t H3 e3 ht => ?_⟩
        cases eh
        refine ⟨D, ws, _, rfl, rfl, e3 _ _ hDl, small_sz (by omega), ?_⟩
        have hD3 := e3 _ _ hDl
        have hc3 := bk_mut (zs := ws ++ [.ref t]) hD3 (hc.ext e3)
        have hw3 : Ws (upd H3 D (.lst (ws ++ [.ref t]))) (ws ++ [.ref t]) (ts ++ [wordV R h]) := ((hw.keep fun q t z => e3 _ _ z).snoc ht).keep fun q t z => tup_mut hD3 z
        have e4 : Ext H1 (upd H3 D (.lst (ws ++ [.ref t]))) := ext_mut (e.trans e3) hD
        have hl4 : (upd H3 D (.lst (ws ++ [.ref t]))) D = some (.lst (ws ++ [.ref t])) := upd_same
        generalize upd H3 D (.lst (ws ++ [.ref t])) = H4 at hc3 hw3 e4 hl4 ⊢
        obtain ⟨dx, ps, po, hb, _, _⟩ := id hc3
        refine ⟨_, rfl, c, dx, _, rfl, hb, rfl, _, rfl, c, n, R, _, .str h, rfl, hc3, gc, .str h, hsm1, fun z => (by rw [hnm] at z; cases z), fun h' eh _ b' H5 e5 hb' => ?_⟩
        cases eh
        exact ⟨e4.trans e5, b', _, _, rfl, e5 _ _ hl4, hw3.keep fun q t z => e5 _ _ z, hb', good_step gc hn⟩
      · obtain ⟨e, c, o3, ws, rfl, hDl, hw, hc, gc⟩ := pv
        rw [List.length_map, List.take_length] at hw hc
        refine ⟨_, rfl, _, rfl, by show 2 ≤ sizeLine; decide, fun q hq => ?_⟩
        exact q4 q D c ws _ ((e1.trans e).trans (Ext.upd hq)) hD0 upd_same (Ext.upd hq _ _ hDl) (hw.keep fun q' t z => Ext.upd hq _ _ z) (hc.ext (Ext.upd hq))
end
end K02

set_option Elab.async false
set_option maxRecDepth 100000
set_option maxHeartbeats 4000000
namespace K02
open PySem PySem.Spec PyProof.Rows L2
section
variable {P : Program} {w : World} {K : PySem.W.Frag} {mg : Str → Option Value} {base : Heap} {A : Ad}
def ErrWs (A : Ad) (E : XK) (H : Hp) (v : V) : Prop := ∀ H', Ext H H' → ∀ e, H' e = none → E (.ref A.BadWords) (some e) (upd H' e (.xd [("index", v)]))
structure ReadS (K : PySem.W.Frag) (A : Ad) (vs : List V) (H : Hp) (Q : VK) (E : XK) : Prop where
  h :∃ (v u : V) (du : PyData), vs = [v, u] ∧ Dp K H u du ∧ (∀ ds, itemsD du = some ds → ds.length ≤ 1000 ∧ ∀ x ∈ ds, SmD (sndD x)) ∧
  ((∃ d, Dp K H v d ∧ ErrP A E H "book") ∨ ∃ b n s, v = .ref b ∧ BkAt K A H b n s ∧ Good n s ∧ (isSeqD du = false → ErrWs A E H .non) ∧ (∀ ds, itemsD du = some ds → (readI n s ds).2 = false → ErrWs A E H (.int ((readI n s ds).1.length : Nat))) ∧
    ∀ ds, itemsD du = some ds → (readI n s ds).2 = true → ∀ q D c H', Ext H H' → H D = none → H' q = some (.tup [.ref D, .ref c]) → H' D = some (.lst ((readI n s ds).1.map V.str)) → BkAt K A H' c n ((readI n s ds).1.foldl step s) → Q (.ref q) H')
def spRead (K : PySem.W.Frag) (A : Ad) : Sp := fun vs H Q E => ReadS K A vs H Q E
theorem ok_read {f : Addr} {fd : FuncData} (F : Fun K "read_words" "read_words" s_read_words f fd) (T : Txt K mg A) (O_check_book : Own P w K mg base (L2.CX P w) "check_book" 3 pm_check_book (spCheckBook K A)) (O_is_list : Own P w K mg base CX0 "is_list" 1 pm_is_list (spIsList K))
    (O_read_head : Own P w K mg base CX0 "read_head" 5 pm_read_head (spReadHead K A)) (O_Book_used : OwnM P w K mg base (L2.CX P w) A.Book "used" 7 pm_Book_used (spUsed K A)) (X_BadWords : XCls P w K mg base "BadWords" "index" A.BadWords) : FnOk P w K mg base (L2.CX P w) 8 f fd pm_read_words (spRead K A) := by
  refine F.okX sc_read_words (fun vs H Q E h => ?_) (fun cdv A' outer sh H vs Q E hr h => ?_)
  · obtain ⟨_, _, _, rfl, _⟩ := h.h
    rfl
  · obtain ⟨v, u, du, rfl, hu, hsm, h⟩ := h.h
    refine ⟨_, pss_cons (ps_expr (pe_ownS O_check_book (hr.mono (by decide)) (takes_of rfl rfl rfl rfl) (pa_cons (pv 0) pa_nil)))
      (pss_cons (ps_if (pt_not (pt_val (pe_own O_is_list (hr.mono (by decide)) pass0 (pa_cons (pv 1) pa_nil)))) (pss_one (ps_raise rfl (takes_of rfl rfl rfl rfl) (pmk_X X_BadWords (hr.mono (by decide)) (pe_non) rfl))) (pss_nil))
      (pss_cons (ps_set (i := 2) sc_read_words.nd rfl (Or.inl rfl) (pe_lst (pa_nil)))
      (pss_cons (ps_for (passes_of rfl) rfl (pi_enSq rfl T.n_enumerate (pa_cons (pv 1) pa_nil)) (pg_tup rfl (pgs_cons (pg_name (i := 3) sc_read_words.nd rfl (Or.inl rfl)) (pgs_cons (pg_name (i := 4) sc_read_words.nd rfl (Or.inl rfl)) (pgs_nil)))) (pss_cons (ps_set (i := 5) sc_read_words.nd rfl (Or.inl rfl) (pe_own O_read_head (hr.mono (by decide)) pass0 (pa_cons (pv 0) (pa_cons (pv 4) pa_nil))))
      (pss_cons (ps_if (pt_cmpR op_isN (pv 5) (pe_non) (nomark _)) (pss_one (ps_raise rfl (takes_of rfl rfl rfl rfl) (pmk_X X_BadWords (hr.mono (by decide)) (pv 3) rfl))) (pss_nil))
      (pss_cons (ps_expr (pe_bm PySem.F.plainAttrs_list PySem.F.slot_list_append PySem.F.type_list_append mt_append (pv 2) (pa_cons (pv 5) pa_nil)))
      (pss_one (ps_set (i := 0) sc_read_words.nd rfl (Or.inl rfl) (pe_ownM O_Book_used (pv 0) T.Book.cl (hr.mono (by decide)) passL (pa_cons (pv 5) pa_nil))))))))
      (pss_one (ps_ret (pe_tup (pa_cons (pv 2) (pa_cons (pv 0) pa_nil)))))))), ?_⟩
    rcases h with ⟨d, hd, hE⟩ | ⟨b, n, s, rfl, hB, g, q1, q2, q3⟩
    · exact ⟨_, rfl, v, rfl, .inr ⟨d, hd, hE⟩⟩
    · refine ⟨_, rfl, _, rfl, .inl ⟨b, n, s, rfl, hB, ?_⟩⟩
      refine ⟨u, rfl, u, .type (tnD du), isSeqD du, rfl, fun H' e => dp_ty (dp_ext e _ _ hu), by rw [kd_seq], fun H1 e1 => ⟨_, rfl, ?_⟩⟩
      cases h1 : isSeqD du with
      | false => exact iteT (mkX_fin fun e he => q1 h1 _ e1 e he)
      | true =>
        refine iteF ⟨by decide, fun D hD => ?_⟩
        have hD0 := ext_none e1 hD
        obtain ⟨a, xs, ds, rfl, hx, ha, hdd⟩ := dp_seq (dp_ext e1 _ _ hu) h1
        have hit : itemsD du = some ds := by rcases hdd with rfl | rfl <;> rfl
        have q2' := q2 ds hit
        have q3' := q3 ds hit
        obtain ⟨hl, hsd⟩ := hsm ds hit
        clear q1 q2 q3
        have hxl := dps_len ha
        refine ⟨_, rfl, a, rfl, ?_⟩
        refine for_enSqM (H0 := H1) (xs := xs) hx (fun i σ' H' => Ext H1 H' ∧ ∃ c o3 o4 o5 hs, σ' = [some (.ref c), some (.ref a), some (.ref D), o3, o4, o5] ∧ H' D = some (.lst (hs.map V.str)) ∧ hs.length = i ∧
            readI n s ds = (hs ++ (readI n (hs.foldl step s) (ds.drop i)).1, (readI n (hs.foldl step s) (ds.drop i)).2) ∧ BkAt K A H' c n (hs.foldl step s) ∧ Good n (hs.foldl step s))
          ⟨Ext.upd hD, b, _, _, _, [], rfl, upd_same, rfl, rfl, (hB.ext e1).ext (Ext.upd hD), g⟩ (fun i σ' H' pv => pv.1) (fun i x σ' H' T' hi pv hT => ?_) (fun σ' H' pv => ?_)
        · obtain ⟨e, c, o3, o4, o5, hs, rfl, hDl, hsl, hrd, hc, gc⟩ := pv
          refine ⟨T', _, rfl, SqT.of upd_same, rfl, _, _, rfl, _, _, rfl, rfl, ?_⟩
          have e3 := e.upd' (o := .tup [.int (i : Nat), x]) hT
          have hD3 : (upd H' T' (.tup [.int (i : Nat), x])) D = some (.lst (hs.map V.str)) := Ext.upd hT _ _ hDl
          have hc3 := hc.ext (Ext.upd (o := .tup [.int (i : Nat), x]) hT)
          obtain ⟨d0, hdi, hdv⟩ := dps_get (dps_ext e3 _ _ ha) hi
          generalize upd H' T' (.tup [.int (i : Nat), x]) = H3 at e3 hD3 hc3 hdv ⊢
          have hdrop : ds.drop i = d0 :: ds.drop (i + 1) := by
            have hlt := (List.getElem?_eq_some_iff.mp hdi)
            rw [List.drop_eq_getElem_cons hlt.1, hlt.2]
          refine ⟨_, rfl, x, rfl, c, n, _, x, d0, rfl, hc3, gc, hdv, hsd d0 (List.mem_of_getElem? hdi), fun H4 e4 => ⟨_, rfl, rfl, _, rfl, ?_⟩⟩
          rw [nn_sV]
          cases hr0 : readD d0 n (hs.foldl step s) with
          | none =>
            have z : readI n s ds = (hs, false) := by
              rw [hrd, hdrop]
              unfold readI
              rw [hr0]
              dsimp only
              rw [List.append_nil]
            rw [z] at q2'
            have q2'' := q2' rfl
            rw [show ((hs, false) : List Str × Bool).1.length = i from hsl] at q2''
            exact iteT ⟨_, rfl, mkX_fin fun e he => q2'' _ ((e1.trans e3).trans e4) e he⟩
          | some h =>
            have hn := read_name gc hr0
            have hsm1 : SmD (.str h) := by
              have := name_len hn
              show h.length ≤ 1000
              omega
            have hnm : nameD (.str h) = true := hn
            have hD4 := e4 _ _ hD3
            have hii := (List.getElem?_eq_some_iff.mp hdi).1
            refine iteF ⟨_, rfl, .inl ⟨rfl, _, SqL.of hD4⟩, _, rfl, D, _, .str h, rfl, rfl, hD4, small_sz (by rw [List.length_map]; omega), ?_⟩
            have hc5 := bk_mut (zs := hs.map V.str ++ [V.str h]) hD4 (hc3.ext e4)
            have e5 : Ext H1 (upd H4 D (.lst (hs.map V.str ++ [V.str h]))) := ext_mut (e3.trans e4) hD
            have hD5 : (upd H4 D (.lst (hs.map V.str ++ [V.str h]))) D = some (.lst ((hs ++ [h]).map V.str)) := by
              rw [upd_same, List.map_append]
              rfl
            generalize upd H4 D (.lst (hs.map V.str ++ [V.str h])) = H5 at hc5 e5 hD5 ⊢
            obtain ⟨dx, ps, po, hb, _, _⟩ := id hc5
            refine ⟨_, rfl, c, dx, _, rfl, hb, rfl, _, rfl, c, n, _, _, .str h, rfl, hc5, gc, .str h, hsm1, fun z => (by rw [hnm] at z; cases z), fun h' eh _ b' H6 e6 hb' => ?_⟩
            cases eh
            refine ⟨e5.trans e6, b', _, _, _, hs ++ [h], rfl, e6 _ _ hD5, by rw [List.length_append, hsl]; rfl, ?_, by rw [List.foldl_append]; exact hb', by rw [List.foldl_append]; exact good_step gc hn⟩
            rw [hrd, hdrop, List.foldl_append]
            conv => lhs; unfold readI
            rw [hr0]
            dsimp only [List.foldl]
            rw [List.append_assoc]
            rfl
        · obtain ⟨e, c, o3, o4, o5, hs, rfl, hDl, hsl, hrd, hc, gc⟩ := pv
          have z : readI n s ds = (hs, true) := by
            rw [hrd, List.drop_of_length_le (by omega)]
            show (hs ++ [], true) = _
            rw [List.append_nil]
          rw [z] at q3'
          refine ⟨_, rfl, _, rfl, by show 2 ≤ sizeLine; decide, fun q hq => ?_⟩
          exact q3' rfl q D c _ ((e1.trans e).trans (Ext.upd hq)) hD0 upd_same (Ext.upd hq _ _ hDl) (hc.ext (Ext.upd hq))
end
end K02

set_option Elab.async false
set_option maxRecDepth 100000
set_option maxHeartbeats 4000000
namespace K02
open PySem PySem.Spec PyProof.Rows L2
/-! ### what is drawn by -/
def PoolD (H : Hp) (st : Addr) : Prop := ∃ a b : Int, H st = some (.lst [.int a, .int b]) ∧ 0 ≤ b ∧ b < 2147483647
def ExtM (st : Addr) (H H' : Hp) : Prop := ∀ x o, x ≠ st → H x = some o → H' x = some o
theorem ExtM.rfl' {st : Addr} {H : Hp} : ExtM st H H := fun _ _ _ h => h
theorem ExtM.trans {st : Addr} {H H1 H2 : Hp} (a : ExtM st H H1) (c : ExtM st H1 H2) : ExtM st H H2 := fun x o h e => c x o h (a x o h e)
theorem Ext.m {st : Addr} {H H' : Hp} (h : Ext H H') : ExtM st H H' := fun x o _ e => h x o e
theorem PoolD.ext {st : Addr} {H H' : Hp} (h : PoolD H st) (e : Ext H H') : PoolD H' st := by
  obtain ⟨a, b, hs, h⟩ := h
  exact ⟨a, b, e _ _ hs, h⟩
theorem PoolD.new {st l : Addr} {H : Hp} (h : PoolD H st) (hl : H l = none) : l ≠ st := by
  obtain ⟨a, b, hs, _⟩ := h
  exact (ne_of_none hs hl).symm
theorem ExtM.none {st t : Addr} {H H' : Hp} (e : ExtM st H H') (h1 : t ≠ st) (h : H' t = none) : H t = none := by
  cases z : H t with
  | none => rfl
  | some o =>
    rw [e t o h1 z] at h
    cases h
theorem mut1 {st : Addr} (o : HO) (H1 : Hp) : ExtM st H1 (upd H1 st o) := fun x u hx h => by
  rw [upd_ne hx]
  exact h
theorem cut_to {xs : List V} {k : Nat} : cutV xs none (some (k : Int)) = xs.take k := by
  unfold cutV
  rw [HT.sIx_none, HT.sIx_nat, List.drop_zero, Nat.sub_zero, Nat.min_def]
  split
  · rfl
  · rename_i h
    rw [List.take_length, List.take_of_length_le (by omega)]
theorem get_int {ns : List Int} {k : Nat} (h : k < ns.length) : (ns.map V.int)[k]? = some (.int (ns.getD k 0)) := by
  rw [List.getElem?_map, List.getElem?_eq_getElem h, List.getD_eq_getElem?_getD, List.getElem?_eq_getElem h]
  rfl
section
variable {P : Program} {w : World} {K : PySem.W.Frag} {mg : Str → Option Value} {base : Heap} {A : Ad}
def spPool (K : PySem.W.Frag) : Sp := fun vs H Q _ => ∃ (sc : Addr) (ns : List Int) (k : Nat), vs = [.ref sc, .int (k : Int)] ∧ SqL K H sc (ns.map V.int) ∧ ns.length ≤ 63 ∧ k ≤ 100 ∧ ∀ st H', Ext H H' → H st = none → PoolD H' st → Q (.ref st) H'
theorem ok_pool {f : Addr} {fd : FuncData} (F : Fun K "_law_pool" "_law_pool" s__law_pool f fd) (T : Txt K mg A) : FnOk P w K mg base CX0 1 f fd pm__law_pool (spPool K) := by
  refine F.ok sc__law_pool (fun vs H Q E h => ?_) (fun cdv A' outer s H vs Q E hr h => ?_)
  · obtain ⟨_, _, _, rfl, _⟩ := h
    rfl
  · obtain ⟨sc, ns, k, rfl, hs, hl, hk, q⟩ := h
    refine ⟨_, Evl.pss_cut (ps_set (i := 2) sc__law_pool.nd rfl (Or.inl rfl) (pe_ifExp (pt_cmpR op_lt (pv 1) (pe_callB call_len_seq (by rfl) T.n_len (by decide +kernel) (pa_cons (pv 0) pa_nil)) (nomark _)) (pe_ix ix_list (pv 0) (pv 1) (fun _ _ => rfl)) (pe_op op_add (pe_op op_mul (pe_int) (pe_callB (cr_sum rfl) (by rfl) T.n_sum (by decide +kernel) (pa_cons (pe_slice sl_list (pv 0) po_none (po_some (pe_int))) pa_nil))) (pv 1))))
      (pss_cons (ps_set (i := 3) sc__law_pool.nd rfl (Or.inl rfl) (pe_callB call_abs (by rfl) T.n_abs (by decide +kernel) (pa_cons (pv 2) pa_nil)))
      (pss_cons (ps_set (i := 4) sc__law_pool.nd rfl (Or.inl rfl) (pe_op op_add (pe_op op_add (pe_op op_add (pe_op op_mod (pe_callTy call_int1 (by rfl) T.n_int (by decide +kernel) (pa_cons (pv 3) pa_nil)) (pe_int)) (pe_op op_mul (pe_op op_mul (pe_int) (pv 1)) (pv 1))) (pe_op op_mul (pe_int) (pv 1))) (pe_int)))
      (pss_cons (ps_set (i := 4) sc__law_pool.nd rfl (Or.inl rfl) (pe_op op_mod (pe_callTy call_int1 (by rfl) T.n_int (by decide +kernel) (pa_cons (pe_op op_mul (pv 4) (pe_int)) pa_nil)) (pe_int)))
      (pss_one (ps_ret (pe_lst (pa_cons (pe_op op_mul (pv 3) (pe_callTy call_int1 (by rfl) T.n_int (by decide +kernel) (pa_cons (pe_cmpR op_ge (pv 3) (pe_op op_pow (pe_int) (pe_int)) (nomark _)) pa_nil))) (pa_cons (pe_op op_mod (pe_callTy call_int1 (by rfl) T.n_int (by decide +kernel) (pa_cons (pe_op op_mul (pv 4) (pv 4)) pa_nil)) (pe_int)) pa_nil)))))))), ?_⟩
    refine ⟨fun σ H' => ∃ c : Int, σ = [some (.ref sc), some (.int (k : Int)), some (.int c), Option.none, Option.none] ∧ Ext H H', ?_, ?_⟩
    · refine ⟨_, rfl, _, rfl, sc, _, rfl, .inl hs, _, _, rfl, rfl, _, rfl, ?_⟩
      rw [List.length_map]
      by_cases hkl : (k : Int) < (ns.length : Int)
      · rw [decide_eq_true hkl]
        exact iteT ⟨_, rfl, _, rfl, sc, _, _, .int (ns.getD k 0), rfl, rfl, hs, atI_nat (get_int (by omega)), _, rfl, Ext.rfl'⟩
      · rw [decide_eq_false hkl]
        have hc : cutV (ns.map V.int) none (some ((63 : Nat) : Int)) = (ns.take 63).map V.int := by rw [cut_to, List.map_take]
        refine iteF ⟨_, rfl, 63, rfl, sc, _, rfl, hs, fun l hl => ⟨l, ns.take 63, rfl, SqL.of (by rw [upd_same]; exact congrArg (fun x => some (HO.lst x)) hc), _, _, rfl, rfl, .inl ⟨by decide, by decide⟩, _, rfl, _, _, rfl, rfl, _, rfl, Ext.upd hl⟩⟩
    · rintro σ H' ⟨c, rfl, e1⟩
      refine ⟨_, rfl, c, rfl, ?_⟩
      generalize (if c < 0 then -c else c) = big
      refine ⟨_, rfl, .inl ⟨_, rfl, _, _, rfl, rfl, (show (0 : Int) < 2147483629 by decide), ?_⟩⟩
      refine ⟨_, rfl, _, _, rfl, rfl, .inl ⟨by decide, by decide⟩, _, rfl, _, _, rfl, rfl, .inl ⟨by omega, by omega⟩, _, _, rfl, rfl, _, rfl, _, _, rfl, rfl, .inl ⟨by decide, by decide⟩, _, _, rfl, rfl, _, _, rfl, rfl, _, rfl, _, _, rfl, rfl, .inr ⟨by decide, by decide⟩, .inl ⟨_, rfl, _, _, rfl, rfl, (show (0 : Int) < 2147483647 by decide), ?_⟩⟩
      generalize (big % 2147483629 + 7919 * (k : Int) * (k : Int) + 31 * (k : Int) + 17) * 48271 = z
      have m0 : 0 ≤ z % 2147483647 := Int.emod_nonneg _ (by decide)
      have m1 : z % 2147483647 < 2147483647 := Int.emod_lt_of_pos _ (by decide)
      generalize z % 2147483647 = m at m0 m1 ⊢
      refine ⟨_, rfl, _, rfl, _, _, rfl, rfl, ⟨by decide, by decide, by decide⟩, _, _, rfl, rfl, .inr ⟨_, rfl, _, _, rfl, rfl, .inr ?_, _, rfl, _, rfl, _, _, rfl, rfl, .inl ⟨by omega, by omega⟩, .inl ⟨_, rfl, _, _, rfl, rfl, (show (0 : Int) < 2147483629 by decide), by show 2 ≤ sizeLine; decide, fun st hst => ?_⟩⟩⟩
      · split <;> decide
      · exact q st _ (e1.trans (Ext.upd hst)) (ext_none e1 hst) ⟨_, _, upd_same, Int.emod_nonneg _ (by decide), Int.lt_trans (Int.emod_lt_of_pos _ (by decide)) (by decide)⟩
def spDraw : Sp := fun vs H Q _ => ∃ (st : Addr) (B : Int), vs = [.ref st, .int B] ∧ PoolD H st ∧ 1 ≤ B ∧ B ≤ 100000 ∧ ∀ n H', 0 ≤ n → n < B → PoolD H' st → ExtM st H H' → Q (.int n) H'
theorem ok_draw {f : Addr} {fd : FuncData} (F : Fun K "_law_draw" "_law_draw" s__law_draw f fd) (T : Txt K mg A) : FnOk P w K mg base CX0 1 f fd pm__law_draw spDraw := by
  refine F.ok sc__law_draw (fun vs H Q E h => ?_) (fun cdv A' outer s H vs Q E hr h => ?_)
  · obtain ⟨_, _, rfl, _⟩ := h
    rfl
  · obtain ⟨st, B, rfl, ⟨a, b, hst, b0, b1⟩, hB, hB2, k⟩ := h
    refine ⟨_, pss_cons (ps_if (pt_cmpR op_gt (pe_ix ix_list (pv 0) (pe_int) (fun _ _ => rfl)) (pe_int) (nomark _)) (pss_cons (ps_set (i := 2) sc__law_draw.nd rfl (Or.inl rfl) (pe_op op_modN (pe_callTy call_int1 (by rfl) T.n_int (by decide +kernel) (pa_cons (pe_ix ix_list (pv 0) (pe_int) (fun _ _ => rfl)) pa_nil)) (pv 1)))
      (pss_cons (ps_asg (pe_op op_fdivN (pe_ix ix_list (pv 0) (pe_int) (fun _ _ => rfl)) (pv 1)) (pg_sub (pv 0) (pe_int) set_list))
      (pss_one (ps_ret (pv 2))))) (pss_nil))
      (pss_cons (ps_asg (pe_op op_mod (pe_callTy call_int1 (by rfl) T.n_int (by decide +kernel) (pa_cons (pe_op op_add (pe_op op_mul (pe_ix ix_list (pv 0) (pe_int) (fun _ _ => rfl)) (pe_int)) (pe_int)) pa_nil)) (pe_int)) (pg_sub (pv 0) (pe_int) set_list))
      (pss_one (ps_ret (pe_op op_modN (pe_callTy call_int1 (by rfl) T.n_int (by decide +kernel) (pa_cons (pe_op op_fdiv (pe_op op_mod (pe_callTy call_int1 (by rfl) T.n_int (by decide +kernel) (pa_cons (pe_op op_mul (pe_ix ix_list (pv 0) (pe_int) (fun _ _ => rfl)) (pe_ix ix_list (pv 0) (pe_int) (fun _ _ => rfl))) pa_nil)) (pe_int)) (pe_int)) pa_nil)) (pv 1))))), ?_⟩
    refine ⟨_, rfl, st, _, 0, .int a, rfl, rfl, SqL.of hst, rfl, _, _, rfl, rfl, _, rfl, ?_⟩
    by_cases ha : a > 0
    · rw [decide_eq_true ha]
      refine iteT ⟨_, rfl, st, _, 0, .int a, rfl, rfl, SqL.of hst, rfl, .inl ⟨_, rfl, _, rfl, _, _, rfl, rfl, (by show B ≠ 0; omega), ?_⟩⟩
      refine ⟨_, rfl, st, _, 0, .int a, rfl, rfl, SqL.of hst, rfl, _, rfl, _, _, rfl, rfl, ⟨by omega, by omega⟩, _, rfl, st, _, 0, 0, rfl, rfl, hst, rfl, ?_⟩
      exact ⟨_, rfl, k _ _ (Int.fmod_nonneg_of_pos _ (by omega)) (Int.fmod_lt_of_pos _ (by omega)) ⟨_, _, upd_same, b0, b1⟩ (mut1 _ _)⟩
    · rw [decide_eq_false ha]
      refine iteF ?_
      refine ⟨_, rfl, st, _, 1, .int b, rfl, rfl, SqL.of hst, rfl, _, _, rfl, rfl, .inr ⟨by decide, by decide⟩, _, _, rfl, rfl, .inl ⟨_, rfl, _, _, rfl, rfl, (show (0 : Int) < 2147483647 by decide), ?_⟩⟩
      refine ⟨_, rfl, st, _, 1, 1, rfl, rfl, hst, rfl, ?_⟩
      have c0 : 0 ≤ (b * 48271 + 11) % 2147483647 := Int.emod_nonneg _ (by decide)
      have c1 : (b * 48271 + 11) % 2147483647 < 2147483647 := Int.emod_lt_of_pos _ (by decide)
      generalize hz : (b * 48271 + 11) % 2147483647 = c at c0 c1
      have hs1 : upd H st (.lst ([V.int a, .int b].set 1 (.int ((b * 48271 + 11) % 2147483647)))) st = some (.lst [.int a, .int c]) := by rw [hz, upd_same]; rfl
      have x1 : ExtM st H (upd H st (.lst ([V.int a, .int b].set 1 (.int ((b * 48271 + 11) % 2147483647))))) := mut1 _ _
      generalize upd H st (.lst ([V.int a, .int b].set 1 (.int ((b * 48271 + 11) % 2147483647)))) = H1 at hs1 x1 ⊢
      refine ⟨_, rfl, st, _, 1, .int c, rfl, rfl, SqL.of hs1, rfl, _, rfl, st, _, 1, .int c, rfl, rfl, SqL.of hs1, rfl, _, _, rfl, rfl, .inl ⟨by omega, by omega⟩, .inl ⟨_, rfl, _, _, rfl, rfl, (show (0 : Int) < 2147483629 by decide), ?_⟩⟩
      refine ⟨_, _, rfl, rfl, ⟨by decide, by decide⟩, .inl ⟨_, rfl, _, rfl, _, _, rfl, rfl, (by show B ≠ 0; omega), ?_⟩⟩
      exact k _ _ (Int.fmod_nonneg_of_pos _ (by omega)) (Int.fmod_lt_of_pos _ (by omega)) ⟨_, _, hs1, c0, c1⟩ x1
end
end K02

set_option Elab.async false
set_option maxRecDepth 100000
set_option maxHeartbeats 4000000
namespace K02
open PySem PySem.Spec PyProof.Rows L2
def five : List Str := ["a", "b", "cc", "abcdefgh", "z"]
theorem five_ok : ∀ h ∈ five, nameS h = true := by decide +kernel
theorem map_take5 {c : Nat} : ([V.str "a", .str "b", .str "cc", .str "abcdefgh", .str "z"] : List V).take c = (five.take c).map V.str := by
  rw [List.map_take]
  rfl
section
variable {P : Program} {w : World} {K : PySem.W.Frag} {mg : Str → Option Value} {base : Heap} {A : Ad}
def spPick : Sp := fun vs H Q _ => ∃ (st l : Addr) (xs : List V), vs = [.ref st, .ref l] ∧ PoolD H st ∧ H l = some (.lst xs) ∧ l ≠ st ∧ 1 ≤ xs.length ∧ xs.length ≤ 1000 ∧ ∀ (i : Nat) (v : V) H', xs[i]? = some v → PoolD H' st → ExtM st H H' → Q v H'
theorem ok_pick {f : Addr} {fd : FuncData} (F : Fun K "_law_pick" "_law_pick" s__law_pick f fd) (T : Txt K mg A) (O__law_draw : Own P w K mg base CX0 "_law_draw" 1 pm__law_draw spDraw) : FnOk P w K mg base CX0 2 f fd pm__law_pick spPick := by
  refine F.ok sc__law_pick (fun vs H Q E h => ?_) (fun cdv A' outer s H vs Q E hr h => ?_)
  · obtain ⟨_, _, _, rfl, _⟩ := h
    rfl
  · obtain ⟨st, l, xs, rfl, hst, hl, hne, h1, h2, k⟩ := h
    refine ⟨_, pss_one (ps_ret (pe_ix ix_list (pv 1) (pe_own O__law_draw (hr.mono (by decide)) pass0 (pa_cons (pv 0) (pa_cons (pe_callB call_len_seq (by rfl) T.n_len (by decide +kernel) (pa_cons (pv 1) pa_nil)) pa_nil))) (fun _ _ => rfl))), ?_⟩
    refine ⟨_, rfl, _, rfl, _, rfl, l, xs, rfl, .inl (SqL.of hl), st, _, rfl, hst, by omega, by omega, fun n H1 n0 n1 st1 x1 => ?_⟩
    obtain ⟨i, rfl⟩ : ∃ i : Nat, n = (i : Int) := ⟨n.toNat, by omega⟩
    obtain ⟨v, hv⟩ : ∃ v, xs[i]? = some v := ⟨_, List.getElem?_eq_getElem (by omega)⟩
    exact ⟨l, xs, _, v, rfl, rfl, SqL.of (x1 l _ hne hl), atI_nat hv, k i v H1 hv st1 x1⟩
def spLHeads : Sp := fun vs H Q _ => ∃ (st : Addr) (m c : Nat), vs = [.ref st, .int (m : Int), .int (c : Int)] ∧ PoolD H st ∧ m ≤ 1000 ∧ 1 ≤ c ∧ c ≤ 5 ∧ ∀ (D : Addr) (hs : List Str) H', H D = none → H' D = some (.lst (hs.map V.str)) → hs.length = m → (∀ h, h ∈ hs → h ∈ five) → PoolD H' st → ExtM st H H' → Q (.ref D) H'
theorem ok_lheads {f : Addr} {fd : FuncData} (F : Fun K "_law_heads" "_law_heads" s__law_heads f fd) (T : Txt K mg A) (O__law_pick : Own P w K mg base CX0 "_law_pick" 2 pm__law_pick spPick) : FnOk P w K mg base CX0 3 f fd pm__law_heads spLHeads := by
  refine F.ok sc__law_heads (fun vs H Q E h => ?_) (fun cdv A' outer s H vs Q E hr h => ?_)
  · obtain ⟨_, _, _, rfl, _⟩ := h
    rfl
  · obtain ⟨st, m, c, rfl, hst, hm, c1, c5, k⟩ := h
    refine ⟨_, pss_one (ps_ret (pe_lc (own := [("_law_turn", 3)]) (g := gName 3) (by rfl) sc__law_heads.nd (pi_range1 rfl T.n_range (pa_cons (pv 1) pa_nil)) (blkOk_by (own := [("_law_turn", 3)]) (N := nm__law_heads) (sc := defScope s__law_heads) (by decide +kernel)) (fun _ _ _ _ _ => pg_name (i := 3) sc__law_heads.nd rfl (Or.inl rfl)) (fun s1 H1 C1 cl fp => pts_nil) (fun s1 H1 C1 cl fp => pe_own O__law_pick (hr.mono (by decide)) pass0 (pa_cons (pv 0) (pa_cons (pe_slice (sl_listK (K := K) rfl) (pe_lst (pa_cons (pe_str) (pa_cons (pe_str) (pa_cons (pe_str) (pa_cons (pe_str) (pa_cons (pe_str) pa_nil)))))) po_none (po_some (pv 2))) pa_nil))))), ?_⟩
    refine ⟨_, rfl, _, rfl, by omega, by omega, fun D hD => ?_⟩
    have nD := hst.new hD
    refine lc_range (fun i H' => ∃ hs : List Str, H' D = some (.lst (hs.map V.str)) ∧ hs.length = i ∧ (∀ h, h ∈ hs → h ∈ five) ∧ PoolD H' st ∧ ExtM st H H') ⟨[], upd_same, rfl, (fun _ h => nomatch h), hst.ext (Ext.upd hD), Ext.m (Ext.upd hD)⟩ (fun i H' hi pv => ?_) (fun H' pv => ?_)
    · obtain ⟨hs, hr1, hl, hf, sp, xp⟩ := pv
      refine ⟨rfl, ⟨_, rfl, by show 5 ≤ sizeLine; decide, fun p hp => ⟨_, rfl, c, rfl, p, _, rfl, SqL.of upd_same, fun l hl1 => ?_⟩⟩⟩
      have sp2 := (sp.ext (Ext.upd (o := .lst [V.str "a", .str "b", .str "cc", .str "abcdefgh", .str "z"]) hp)).ext (Ext.upd (o := .lst (cutV [V.str "a", .str "b", .str "cc", .str "abcdefgh", .str "z"] none (some (c : Int)))) hl1)
      have nl : l ≠ st := (sp.ext (Ext.upd (o := .lst [V.str "a", .str "b", .str "cc", .str "abcdefgh", .str "z"]) hp)).new hl1
      have hlen : ((five.take c).map V.str).length = c := by
        rw [List.length_map, List.length_take]
        show min c 5 = c
        omega
      refine ⟨st, l, (five.take c).map V.str, rfl, sp2, by rw [upd_same, cut_to, map_take5], nl, by omega, by omega, fun j v H2 hj st2 x2 => ?_⟩
      rw [List.getElem?_map] at hj
      obtain ⟨h, hh, rfl⟩ := Option.map_eq_some_iff.mp hj
      have hr2 := x2 _ _ nD (Ext.upd (o := .lst (cutV [V.str "a", .str "b", .str "cc", .str "abcdefgh", .str "z"] none (some (c : Int)))) hl1 _ _ (Ext.upd (o := .lst [V.str "a", .str "b", .str "cc", .str "abcdefgh", .str "z"]) hp _ _ hr1))
      refine ⟨_, hr2, ?_, hs ++ [h], ?_, by rw [List.length_append, hl]; rfl, fun x hx => ?_, ?_, ?_⟩
      · rw [List.length_map]
        exact small_sz (by omega)
      · rw [upd_same, List.map_append]
        rfl
      · rcases List.mem_append.mp hx with h' | h'
        · exact hf x h'
        · rw [List.mem_singleton.mp h']
          exact List.mem_of_mem_take (List.mem_of_getElem? hh)
      · obtain ⟨a, b, h1, h2⟩ := st2
        exact ⟨a, b, by rw [upd_ne nD.symm]; exact h1, h2⟩
      · exact fun u o hu ho => by
          rw [upd_ne (ne_of_none ho hD)]
          exact x2 u o hu (Ext.upd hl1 _ _ (Ext.upd hp _ _ (xp u o hu ho)))
    · obtain ⟨hs, hr1, hl, hf, sp, xp⟩ := pv
      exact k D hs H' hD hr1 (by omega) hf sp xp
end
end K02

set_option Elab.async false
namespace K02
set_option linter.unusedSectionVars false
/-! two books, and the words that part them; plain mathematics -/
variable {α : Type} [DecidableEq α]
abbrev Wd (α : Type) := Nat ⊕ α
def readW (s : St α) : Wd α → Option α
  | .inl i => (s.1[i]?).join
  | .inr h => some h
def parts : St α → St α → List (Wd α) → Bool
  | _, _, [] => false
  | s, t, [w] => decide (readW s w ≠ readW t w)
  | s, t, w :: ws => match readW s w with
    | none => false
    | some h => decide (readW t w = some h) && parts (step s h) (step t h) ws
theorem parts_cons {s t : St α} {w : Wd α} {ws : List (Wd α)} (h : ws ≠ []) : parts s t (w :: ws) = (match readW s w with | none => false | some h => decide (readW t w = some h) && parts (step s h) (step t h) ws) := by
  cases ws with
  | nil => exact absurd rfl h
  | cons _ _ => rfl
section
variable {n : Nat} {s : St α} {ns : List α} {h : α}
theorem ok_names {ns' : List α} (o : Ok n s ns) (o' : Ok n s ns') : ns = ns' := by rw [← held_names o, ← held_names o']
theorem step_blank (o : Ok n s ns) (hf : h ∉ ns) (hl : ns.length < n) : step s h = (s.1.set ns.length (some h), s.2 ++ [ns.length]) ∧ Ok n (step s h) (ns ++ [h]) := by
  have e : step s h = (s.1.set ns.length (some h), s.2 ++ [ns.length]) := by
    rw [← lstep_step o]
    unfold lstep
    rw [if_neg (fun z => hf (o.mem.mp z)), if_pos (o.nonemem.mpr hl), o.atn hl]
  refine ⟨e, ?_⟩
  obtain ⟨ns', o', _⟩ := ok_step o h
  have z := held_names o'
  rw [e] at z
  have : s.1.set ns.length (some h) = (ns ++ [h]).map some ++ List.replicate (n - (ns.length + 1)) none := by
    rw [o.sl, List.set_append_right _ _ (by rw [List.length_map]; exact Nat.le_refl _), List.length_map, Nat.sub_self, List.map_append]
    have : n - ns.length = (n - (ns.length + 1)) + 1 := by omega
    rw [this, List.replicate_succ]
    simp
  rw [this, List.filterMap_append, List.filterMap_map] at z
  have h1 : (ns ++ [h]).filterMap (id ∘ some) = ns ++ [h] := List.filterMap_some
  have h2 : (List.replicate (n - (ns.length + 1)) (none : Option α)).filterMap id = [] := by
    rw [List.filterMap_eq_nil_iff]
    intro a ha
    rw [(List.mem_replicate.mp ha).2]
    rfl
  rw [h1, h2, List.append_nil] at z
  rw [z]
  exact o'
theorem step_full {p : Nat} {O : List Nat} (o : Ok n s ns) (hf : h ∉ ns) (hl : ns.length = n) (hO : s.2 = p :: O) : step s h = (s.1.set p (some h), O ++ [p]) ∧ Ok n (step s h) (ns.set p h) := by
  have e : step s h = (s.1.set p (some h), O ++ [p]) := by
    rw [← lstep_step o]
    unfold lstep
    rw [if_neg (fun z => hf (o.mem.mp z)), if_neg (fun z => by have := o.nonemem.mp z; omega), hO]
  refine ⟨e, ?_⟩
  obtain ⟨ns', o', _⟩ := ok_step o h
  have z := held_names o'
  rw [e] at z
  have : s.1.set p (some h) = (ns.set p h).map some := by
    rw [o.sl, hl, Nat.sub_self, List.replicate_zero, List.append_nil, List.map_set]
  rw [this, List.filterMap_map] at z
  have h1 : (ns.set p h).filterMap (id ∘ some) = ns.set p h := List.filterMap_some
  rw [h1] at z
  rw [z]
  exact o'
end
/-- the words that overwrite, then the place: they part -/
theorem over {n : Nat} : ∀ (fs : List α) (s t : St α) (ns : List α), Ok n s ns → Ok n t ns → ∀ k p q : Nat, s.2[k]? = some p → t.2[k]? = some q → p ≠ q → (∀ i : Nat, i < k → s.2[i]? = t.2[i]?) →
    fs.length = (n - ns.length) + k + 1 → fs.Nodup → (∀ f, f ∈ fs → f ∉ ns) → parts s t (fs.map Sum.inr ++ [Sum.inl p]) = true
  | [], _, _, _, _, _, _, _, _, _, _, _, _, hl, _, _ => by simp at hl
  | f :: fs, s, t, ns, o, o', k, p, q, hp, hq, hpq, hk, hl, hd, hf => by
    have hfn := hf f List.mem_cons_self
    have hd' := List.nodup_cons.mp hd
    have hl' : fs.length + 1 = (n - ns.length) + k + 1 := hl
    show parts s t (Sum.inr f :: (fs.map Sum.inr ++ [Sum.inl p])) = true
    rw [parts_cons (by simp)]
    show (decide (some f = some f) && parts (step s f) (step t f) (fs.map Sum.inr ++ [Sum.inl p])) = true
    rw [decide_eq_true rfl, Bool.true_and]
    have hpn : p < ns.length := o.omem.mp (List.mem_of_getElem? hp)
    have hqn : q < ns.length := o'.omem.mp (List.mem_of_getElem? hq)
    by_cases hb : ns.length < n
    · obtain ⟨e, oe⟩ := step_blank o hfn hb
      obtain ⟨e', oe'⟩ := step_blank o' hfn hb
      have ks := (List.getElem?_eq_some_iff.mp hp).1
      have kt := (List.getElem?_eq_some_iff.mp hq).1
      refine over fs _ _ _ oe oe' k p q ?_ ?_ hpq (fun i hi => ?_) ?_ hd'.2 (fun x hx hm => ?_)
      · rw [e]
        show (s.2 ++ [ns.length])[k]? = some p
        rw [List.getElem?_append_left ks]
        exact hp
      · rw [e']
        show (t.2 ++ [ns.length])[k]? = some q
        rw [List.getElem?_append_left kt]
        exact hq
      · rw [e, e']
        show (s.2 ++ [ns.length])[i]? = (t.2 ++ [ns.length])[i]?
        rw [List.getElem?_append_left (by omega), List.getElem?_append_left (by omega)]
        exact hk i hi
      · rw [List.length_append]
        show fs.length = n - (ns.length + 1) + k + 1
        omega
      · rcases List.mem_append.mp hm with hm | hm
        · exact hf x (List.mem_cons_of_mem _ hx) hm
        · rw [List.mem_singleton.mp hm] at hx
          exact hd'.1 hx
    · have hfull : ns.length = n := by have := o.le; omega
      cases hs : s.2 with
      | nil => rw [hs] at hp; cases hp
      | cons p0 O =>
        cases ht : t.2 with
        | nil => rw [ht] at hq; cases hq
        | cons q0 O' =>
          obtain ⟨e, oe⟩ := step_full o hfn hfull hs
          obtain ⟨e', oe'⟩ := step_full o' hfn hfull ht
          rw [hs] at hp hk
          rw [ht] at hq hk
          cases k with
          | zero =>
            cases hp
            cases hq
            have hz : fs = [] := List.length_eq_zero_iff.mp (by omega)
            subst hz
            show decide (readW (step s f) (.inl p) ≠ readW (step t f) (.inl p)) = true
            rw [decide_eq_true_eq, e, e']
            show ((s.1.set p (some f))[p]?).join ≠ ((t.1.set q (some f))[p]?).join
            rw [List.getElem?_set_self (by rw [o.len]; omega), List.getElem?_set_ne (fun z => hpq z.symm), o'.get hpn]
            intro z
            have z' : some f = some ns[p] := z
            injection z' with z'
            exact hfn (by rw [z']; exact List.getElem_mem hpn)
          | succ k =>
            have h0 := hk 0 (Nat.succ_pos _)
            have e0 : p0 = q0 := Option.some.inj h0
            subst e0
            have hp' : O[k]? = some p := hp
            have hq' : O'[k]? = some q := hq
            have kO := (List.getElem?_eq_some_iff.mp hp').1
            have kO' := (List.getElem?_eq_some_iff.mp hq').1
            refine over fs _ _ _ oe oe' k p q ?_ ?_ hpq (fun i hi => ?_) ?_ hd'.2 (fun x hx hm => ?_)
            · rw [e]
              show (O ++ [p0])[k]? = some p
              rw [List.getElem?_append_left kO]
              exact hp'
            · rw [e']
              show (O' ++ [p0])[k]? = some q
              rw [List.getElem?_append_left kO']
              exact hq'
            · rw [e, e']
              show (O ++ [p0])[i]? = (O' ++ [p0])[i]?
              rw [List.getElem?_append_left (by omega), List.getElem?_append_left (by omega)]
              exact hk (i + 1) (by omega)
            · rw [List.length_set]
              omega
            · rcases List.mem_or_eq_of_mem_set hm with hm | hm
              · exact hf x (List.mem_cons_of_mem _ hx) hm
              · rw [hm] at hx
                exact hd'.1 hx
theorem read_alike {s t : St α} (h : s.1 = t.1) (w : Wd α) : readW s w = readW t w := by
  cases w with
  | inl i => unfold readW; rw [h]
  | inr _ => rfl
theorem one_parts {s t : St α} {w : Wd α} (h : parts s t [w] = true) : s.1 ≠ t.1 := by
  have z : readW s w ≠ readW t w := of_decide_eq_true h
  exact fun e => z (read_alike e w)
theorem place_parts {s t : St α} {i : Nat} {n : Nat} (hs : s.1.length = n) (ht : t.1.length = n) (h : s.1[i]? ≠ t.1[i]?) : parts s t [.inl i] = true := by
  show decide (readW s (.inl i) ≠ readW t (.inl i)) = true
  rw [decide_eq_true_eq]
  intro z
  have z' : (s.1[i]?).join = (t.1[i]?).join := z
  apply h
  by_cases hl : i < n
  · rw [List.getElem?_eq_getElem (by omega), List.getElem?_eq_getElem (by omega)] at z' ⊢
    exact congrArg some z'
  · rw [List.getElem?_eq_none (by omega), List.getElem?_eq_none (by omega)]
/-- one use of the same head leaves the slots alike -/
theorem step_alike {n : Nat} {s t : St α} {ns : List α} (o : Ok n s ns) (o' : Ok n t ns) (hd : ns.length < n ∨ s.2.head? = t.2.head?) (h : α) : (step s h).1 = (step t h).1 := by
  have e : s.1 = t.1 := by rw [o.sl, o'.sl]
  rw [← lstep_step o, ← lstep_step o']
  unfold lstep
  rw [e]
  by_cases hm : some h ∈ t.1
  · rw [if_pos hm, if_pos hm]
  · rw [if_neg hm, if_neg hm]
    by_cases hz : none ∈ t.1
    · rw [if_pos hz, if_pos hz]
    · rw [if_neg hz, if_neg hz]
      have hh : s.2.head? = t.2.head? := hd.resolve_left fun z => hz (o'.nonemem.mpr z)
      cases hs : s.2 with
      | nil =>
        cases ht : t.2 with
        | nil => exact e
        | cons q O' => rw [hs, ht] at hh; cases hh
      | cons p O =>
        cases ht : t.2 with
        | nil => rw [hs, ht] at hh; cases hh
        | cons q O' =>
          rw [hs, ht] at hh
          have hpq : p = q := Option.some.inj hh
          rw [hpq]
theorem two_parts {n : Nat} {s t : St α} {ns : List α} (o : Ok n s ns) (o' : Ok n t ns) (hd : ns.length < n ∨ s.2.head? = t.2.head?) (w l : Wd α) : parts s t [w, l] = false := by
  rw [parts_cons (by simp)]
  cases readW s w with
  | none => rfl
  | some h =>
    dsimp only
    rw [show parts (step s h) (step t h) [l] = false from decide_eq_false fun z => z (read_alike (step_alike o o' hd h) l), Bool.and_false]
/-- where two lists of one length part first -/
theorem first_diff {β : Type} [DecidableEq β] : ∀ {l m : List β}, l.length = m.length → l ≠ m → ∃ (k : Nat) (p q : β), l[k]? = some p ∧ m[k]? = some q ∧ p ≠ q ∧ ∀ i : Nat, i < k → l[i]? = m[i]?
  | [], [], _, h => absurd rfl h
  | [], _ :: _, h, _ => nomatch h
  | _ :: _, [], h, _ => nomatch h
  | x :: l, y :: m, hl, h => by
    by_cases e : x = y
    · subst e
      obtain ⟨k, p, q, h1, h2, h3, h4⟩ := first_diff (l := l) (m := m) (Nat.succ.inj hl) fun z => h (by rw [z])
      refine ⟨k + 1, p, q, h1, h2, h3, fun i hi => ?_⟩
      cases i with
      | zero => rfl
      | succ i => exact h4 i (Nat.lt_of_succ_lt_succ hi)
    · exact ⟨0, x, y, rfl, rfl, e, fun i hi => absurd hi (Nat.not_lt_zero _)⟩
theorem same_names {n : Nat} {s t : St α} {ns ms : List α} (o : Ok n s ns) (o' : Ok n t ms) (h : s.1 = t.1) : ns = ms := by rw [← held_names o, ← held_names o', h]
theorem count_none {n : Nat} {s : St α} {ns : List α} (o : Ok n s ns) : s.1.count none = n - ns.length := by
  rw [o.sl, List.count_append, List.count_replicate_self]
  have : (ns.map some).count (none : Option α) = 0 := List.count_eq_zero.mpr fun h => by
    obtain ⟨_, _, z⟩ := List.mem_map.mp h
    cases z
  omega
end K02

set_option Elab.async false
set_option maxRecDepth 100000
set_option maxHeartbeats 4000000
namespace K02
open PySem PySem.Spec PyProof.Rows L2
section
variable {P : Program} {w : World} {K : PySem.W.Frag} {mg : Str → Option Value} {base : Heap} {A : Ad}
def spPair (K : PySem.W.Frag) (A : Ad) : Sp := fun vs H Q _ => ∃ b c n s t, vs = [.ref b, .ref c] ∧ BkAt K A H b n s ∧ BkAt K A H c n t ∧ Q .non H
theorem ok_pair {f : Addr} {fd : FuncData} (F : Fun K "check_pair" "check_pair" s_check_pair f fd) (T : Txt K mg A) (X_BadPart : XCls P w K mg base "BadPart" "part" A.BadPart) : FnOk P w K mg base (L2.CX P w) 3 f fd pm_check_pair (spPair K A) := by
  refine F.okX sc_check_pair (fun vs H Q E h => ?_) (fun cdv A' outer sh H vs Q E hr h => ?_)
  · obtain ⟨_, _, _, _, _, rfl, _⟩ := h
    rfl
  · obtain ⟨b, c, n, s, t, rfl, ⟨dx, ps, po, hb, _, _⟩, ⟨dy, pt, pp, hc, _, _⟩, q⟩ := h
    refine ⟨_, pss_cons (ps_if (pt_not (pt_val (pe_callB call_isi (by rfl) T.n_isinstance (by decide +kernel) (pa_cons (pv 0) (pa_cons (pe_gcls T.Book.gC) pa_nil))))) (pss_one (ps_raise rfl (takes_of rfl rfl rfl rfl) (pmk_X X_BadPart (hr.mono (by decide)) (pe_str) rfl))) (pss_nil))
      (pss_one (ps_if (PW.pt (pw_or (pt_not (pt_val (pe_callB call_isi (by rfl) T.n_isinstance (by decide +kernel) (pa_cons (pv 1) (pa_cons (pe_gcls T.Book.gC) pa_nil))))) (pw_or1 (pt_cmpR op_ne (pe_fld (pv 1) rfl) (pe_fld (pv 0) rfl) (nomark _))))) (pss_one (ps_raise rfl (takes_of rfl rfl rfl rfl) (pmk_X X_BadPart (hr.mono (by decide)) (pe_str) rfl))) (pss_nil))), ?_⟩
    refine ⟨_, rfl, _, .ref A.Book, .ref A.Book, .ref A.Book, true, rfl, .own _, T.Book.tyOf hb, T.Book.me, _, rfl, ?_⟩
    refine iteF ⟨_, rfl, _, .ref A.Book, .ref A.Book, .ref A.Book, true, rfl, .own _, T.Book.tyOf hc, T.Book.me, _, rfl, ?_⟩
    refine iteF ⟨_, rfl, c, A.Book, dy, _, _, rfl, hc, T.Book.cl, T.b_places, rfl, _, rfl, b, A.Book, dx, _, _, rfl, hb, T.Book.cl, T.b_places, rfl, rfl, _, rfl, ?_⟩
    rw [decide_eq_true rfl]
    exact iteF q
end
end K02

set_option Elab.async false
set_option maxRecDepth 100000
set_option maxHeartbeats 4000000
namespace K02
open PySem PySem.Spec PyProof.Rows L2
def sg (c : Nat) : Str := ⟨#[c]⟩
def azs : List Nat := (("abcdefghijklmnopqrstuvwxyz" : Str)).cps.toList
def lets : List Str := azs.map sg
def fresh (s : St Str) : List Str := lets.filter fun c => decide (some c ∉ s.1)
def overs (n : Nat) (s : St Str) (m : Nat) : List Str := (fresh s).take (n - s.2.length + m)
def longV (f : Str) : List V := [.str "long", .str f]
section
variable {P : Program} {w : World} {K : PySem.W.Frag} {mg : Str → Option Value} {base : Heap} {A : Ad}
def spOver (K : PySem.W.Frag) (A : Ad) : Sp := fun vs H Q _ => ∃ (b : Addr) (n m : Nat) (s : St Str), vs = [.ref b, .int (m : Int)] ∧ BkAt K A H b n s ∧ Good n s ∧ m ≤ 1000 ∧ ∀ D ws H', Ext H H' → H D = none → H' D = some (.lst ws) → Ws H' ws ((overs n s m).map longV) → Q (.ref D) H'
theorem ok_over {f : Addr} {fd : FuncData} (F : Fun K "overwriting_words" "overwriting_words" s_overwriting_words f fd) (T : Txt K mg A) (O_Book_contains : OwnM P w K mg base CX0 A.Book "__contains__" 1 pm_Book_contains (spIn K A)) (O_Book_len : OwnM P w K mg base CX0 A.Book "__len__" 1 pm_Book_len (spLen K A)) : FnOk P w K mg base CX0 3 f fd pm_overwriting_words (spOver K A) := by
  refine F.ok sc_overwriting_words (fun vs H Q E h => ?_) (fun cdv A' outer sh H vs Q E hr h => ?_)
  · obtain ⟨_, _, _, _, rfl, _⟩ := h
    rfl
  · obtain ⟨b, n, m, s, rfl, hB, g, hm, q⟩ := h
    refine ⟨_, pss_cons (ps_setLc (i := 2) (own := [("sign", 4)]) (g := gName 4) (by rfl) sc_overwriting_words.nd rfl rfl (sw_true rfl rfl rfl (by decide +kernel)) (pi_str (pe_gstr T.g_ALPHABET)) (blkOk_by (own := [("sign", 4)]) (N := nm_overwriting_words) (sc := defScope s_overwriting_words) (by decide +kernel)) (fun _ _ _ _ _ => pg_name (i := 4) sc_overwriting_words.nd rfl (Or.inl rfl)) (fun s1 H1 C1 cl fp => pts_one (pt_cmpR (ninO O_Book_contains (hr.mono (by decide)) pass0) (pv 4) (pv 0) (by with_unfolding_all rfl))) (fun s1 H1 C1 cl fp => pv 4))
      (pss_cons (ps_set (i := 3) sc_overwriting_words.nd rfl (Or.inl rfl) (pe_op op_sub (pe_fld (pv 0) rfl) (pe_callB (lenO O_Book_len (hr.mono (by decide)) pass0) (by rfl) T.n_len (by decide +kernel) (pa_cons (pv 0) pa_nil))))
      (pss_one (ps_ret (pe_lc (own := [("name", 5)]) (g := gName 5) (by rfl) sc_overwriting_words.nd (pi_sq (pe_slice sl_list (pv 2) po_none (po_some (pe_op op_add (pv 3) (pv 1))))) (blkOk_by (own := [("name", 5)]) (N := nm_overwriting_words) (sc := defScope s_overwriting_words) (by decide +kernel)) (fun _ _ _ _ _ => pg_name (i := 5) sc_overwriting_words.nd rfl (Or.inl rfl)) (fun s1 H1 C1 cl fp => pts_nil) (fun s1 H1 C1 cl fp => pe_tup (pa_cons (pe_str) (pa_cons (pv 5) pa_nil))))))), ?_⟩
    obtain ⟨dx, ps, po, hb, hs, ho⟩ := id hB
    refine ⟨_, rfl, fun D hD => ?_⟩
    refine lc_it (walk_str (z := "abcdefghijklmnopqrstuvwxyz")) (fun i H' => Ext H H' ∧ H' D = some (.lst (List.map V.str (List.filter (fun c => decide (some c ∉ s.1)) (List.map sg (List.take i azs)))))) ⟨Ext.upd hD, upd_same⟩ (fun _ _ _ _ => True.intro) (fun i x H' H2 hi pv hy => ?_) (fun H' pv => ?_)
    · obtain ⟨e, hl⟩ := pv
      obtain ⟨rfl, c, hc, rfl⟩ := hy
      have hc' : azs[i]? = some c := by
        unfold azs
        rw [Array.getElem?_toList]
        exact hc
      refine ⟨rfl, _, rfl, _, rfl, b, dx, _, rfl, e _ _ hb, b, n, s, _, .str (sg c), rfl, hB.ext e, .str _, _, rfl, _, rfl, ?_⟩
      rw [take_snoc hc', List.map_append, List.filter_append, List.map_append]
      cases hk : inBk (.str (sg c)) s with
      | true =>
        have hm' : some (sg c) ∈ s.1 := of_decide_eq_true hk
        refine iteF ⟨e, ?_⟩
        rw [hl]
        simp [hm']
      | false =>
        have hm' : ¬ some (sg c) ∈ s.1 := of_decide_eq_false hk
        refine iteT ⟨_, rfl, _, hl, small_sz ?_, ext_mut e hD, ?_⟩
        · rw [List.length_map]
          refine Nat.le_trans (List.length_filter_le _ _) ?_
          rw [List.length_map, List.length_take]
          exact Nat.le_trans (Nat.min_le_right _ _) (by decide)
        · rw [upd_same]
          simp [hm']
          rfl
    · obtain ⟨e, hl⟩ := pv
      have hl' : H' D = some (.lst ((fresh s).map V.str)) := by
        rw [hl, List.take_of_length_le (by decide)]
        rfl
      clear hl
      obtain ⟨hn, ns, ok, hns⟩ := id g
      have h3 := ok.olen
      have h4 := ok.le
      refine ⟨_, rfl, b, A.Book, dx, _, _, rfl, e _ _ hb, T.Book.cl, T.b_places, rfl, _, rfl, b, dx, _, rfl, e _ _ hb, b, n, s, rfl, hB.ext e, _, rfl, ⟨by omega, by omega⟩, _, _, rfl, rfl, ?_⟩
      have hi : (n : Int) - (s.2.length : Int) + (m : Int) = ((n - s.2.length + m : Nat) : Int) := by omega
      refine ⟨_, rfl, _, rfl, _, rfl, _, _, rfl, rfl, _, rfl, D, _, rfl, SqL.of hl', fun l hl0 => ⟨l, rfl, .inl ⟨⟨_, SqL.of upd_same⟩, fun D2 hD2 => ?_⟩⟩⟩
      have hcut : cutV ((fresh s).map V.str) none (some ((n : Int) - (s.2.length : Int) + (m : Int))) = (overs n s m).map V.str := by
        rw [hi, cut_to]
        unfold overs
        rw [List.map_take]
      rw [hcut] at hD2 ⊢
      have e2 : Ext H (upd H' l (.lst ((overs n s m).map V.str))) := e.trans (Ext.upd hl0)
      have hL2 : (upd H' l (.lst ((overs n s m).map V.str))) l = some (.lst ((overs n s m).map V.str)) := upd_same
      generalize upd H' l (.lst ((overs n s m).map V.str)) = H2 at e2 hL2 hD2 ⊢
      have hD20 := ext_none e2 hD2
      refine lc_list (xs := (overs n s m).map V.str) (fun i H3 => Ext H2 H3 ∧ ∃ ws, H3 D2 = some (.lst ws) ∧ Ws H3 ws (((overs n s m).take i).map longV)) ⟨Ext.upd hD2, [], upd_same, ⟨rfl, fun i x t h => nomatch h⟩⟩ (fun i H3 _ pv => SqL.of (pv.1 _ _ hL2)) (fun i x H3 hi2 pv => ?_) (fun H3 pv => ?_)
      · obtain ⟨e3, ws, hw1, hw⟩ := pv
        rw [List.getElem?_map] at hi2
        obtain ⟨c, hc, rfl⟩ := Option.map_eq_some_iff.mp hi2
        have hil := (List.getElem?_eq_some_iff.mp hc).1
        have hlen : (overs n s m).length ≤ 26 := by
          unfold overs fresh
          rw [List.length_take]
          refine Nat.le_trans (Nat.min_le_right _ _) (Nat.le_trans (List.length_filter_le _ _) (by decide))
        have hwl : ws.length = i := by
          rw [hw.1, List.length_map, List.length_take]
          omega
        refine ⟨rfl, _, rfl, by show 2 ≤ sizeLine; decide, fun t ht => ⟨ws, Ext.upd ht _ _ hw1, small_sz (by omega), ?_, ws ++ [.ref t], upd_same, ?_⟩⟩
        · exact ext_mut (e3.trans (Ext.upd ht)) hD2
        · rw [take_snoc hc, List.map_append]
          exact ((hw.keep fun q' t' z => Ext.upd ht _ _ z).snoc (t := longV c) upd_same).keep fun q' t' z => tup_mut (Ext.upd ht _ _ hw1) z
      · obtain ⟨e3, ws, hw1, hw⟩ := pv
        rw [List.length_map, List.take_length] at hw
        exact q D2 ws H3 (e2.trans e3) hD20 hw1 hw
end
end K02

set_option Elab.async false
set_option maxRecDepth 100000
set_option maxHeartbeats 4000000
namespace K02
open PySem PySem.Spec PyProof.Rows L2
theorem map_nI (O : List Nat) : O.map nI = (O.map fun (i : Nat) => (i : Int)).map V.int := by
  rw [List.map_map]
  rfl
def toldOk (n : Nat) (s t : St Str) (ts : List (List V)) : Prop := (∃ i : Nat, i < n ∧ s.1[i]? ≠ t.1[i]? ∧ ts = [[.str "short", nI i]]) ∨
  (s.1 = t.1 ∧ ∃ k p q : Nat, s.2[k]? = some p ∧ t.2[k]? = some q ∧ p ≠ q ∧ (∀ i : Nat, i < k → s.2[i]? = t.2[i]?) ∧ ts = (overs n s (k + 1)).map longV ++ [[.str "short", nI p]])
theorem sc_sV (a b : Option Str) : scal (sV a) (sV b) = true := by cases a <;> cases b <;> rfl
theorem ne_sV (a b : Option Str) : decide (sV a = sV b) = decide (a = b) := by cases a <;> cases b <;> simp [sV]
structure TwoW (n : Nat) (s t : St Str) (H : Hp) (Q : VK) : Prop where
  no : s = t → ∀ H', Ext H H' → Q .non H'
  yes : ∀ ts, toldOk n s t ts → ∀ D ws H', Ext H H' → H D = none → H' D = some (.lst ws) → Ws H' ws ts → Q (.ref D) H'
def Tells (n : Nat) (s t : St Str) (v : V) (H : Hp) : Prop := (v = .non ∧ s = t) ∨ ∃ D ws ts, v = .ref D ∧ toldOk n s t ts ∧ H D = some (.lst ws) ∧ Ws H ws ts
theorem TwoW.of {n : Nat} {s t : St Str} {H : Hp} {Q : VK} (h : ∀ v H', Ext H H' → Tells n s t v H' → Q v H') : TwoW n s t H Q :=
  ⟨fun e H' x => h _ _ x (.inl ⟨rfl, e⟩), fun ts o D ws H' x _ h1 h2 => h _ _ x (.inr ⟨D, ws, ts, rfl, o, h1, h2⟩)⟩
section
variable {P : Program} {w : World} {K : PySem.W.Frag} {mg : Str → Option Value} {base : Heap} {A : Ad}
def spPartW (K : PySem.W.Frag) (A : Ad) : Sp := fun vs H Q _ => ∃ (b c : Addr) (n : Nat) (s t : St Str), vs = [.ref b, .ref c] ∧ BkAt K A H b n s ∧ BkAt K A H c n t ∧ Good n s ∧ Good n t ∧
  TwoW n s t H Q
theorem ok_partW {f : Addr} {fd : FuncData} (F : Fun K "parting_words" "parting_words" s_parting_words f fd) (T : Txt K mg A) (O_check_pair : Own P w K mg base (L2.CX P w) "check_pair" 3 pm_check_pair (spPair K A)) (O_Book_held : OwnM P w K mg base CX0 A.Book "held" 1 pm_Book_held (spHeld K A))
    (O_Book_oldest_first : OwnM P w K mg base CX0 A.Book "oldest_first" 1 pm_Book_oldest_first (spOldest K A)) (O_overwriting_words : Own P w K mg base CX0 "overwriting_words" 3 pm_overwriting_words (spOver K A)) : FnOk P w K mg base (L2.CX P w) 5 f fd pm_parting_words (spPartW K A) := by
  refine F.okX sc_parting_words (fun vs H Q E h => ?_) (fun cdv A' outer sh H vs Q E hr h => ?_)
  · obtain ⟨_, _, _, _, _, rfl, _⟩ := h
    rfl
  · obtain ⟨b, c, n, s, t, rfl, hB, hC, g, g2, q1, q2⟩ := h
    refine ⟨_, pss_cons (ps_expr (pe_ownS O_check_pair (hr.mono (by decide)) (takes_of rfl rfl rfl rfl) (pa_cons (pv 0) (pa_cons (pv 1) pa_nil))))
      (pss_cons (ps_for (passes_of rfl) rfl (pi_range1 rfl T.n_range (pa_cons (pe_fld (pv 0) rfl) pa_nil)) (pg_name (i := 2) sc_parting_words.nd rfl (Or.inl rfl)) (pss_one (ps_if (pt_cmpR op_ne (pe_ix ix_tup (pe_ownM0 O_Book_held (pv 0) T.Book.cl (hr.mono (by decide)) pass0) (pv 2) (fun _ _ => rfl)) (pe_ix ix_tup (pe_ownM0 O_Book_held (pv 1) T.Book.cl (hr.mono (by decide)) pass0) (pv 2) (fun _ _ => rfl)) (nomark _)) (pss_one (ps_ret (pe_lst (pa_cons (pe_tup (pa_cons (pe_str) (pa_cons (pv 2) pa_nil))) pa_nil)))) (pss_nil))))
      (pss_cons (ps_set (i := 3) sc_parting_words.nd rfl (Or.inl rfl) (pe_listZip rfl (by rfl) T.n_list (by rfl) T.n_zip (pa_cons (pe_ownM0 O_Book_oldest_first (pv 0) T.Book.cl (hr.mono (by decide)) pass0) (pa_cons (pe_ownM0 O_Book_oldest_first (pv 1) T.Book.cl (hr.mono (by decide)) pass0) pa_nil))))
      (pss_cons (ps_for (passes_of rfl) rfl (pi_enSq rfl T.n_enumerate (pa_cons (pv 3) pa_nil)) (pg_tup rfl (pgs_cons (pg_name (i := 4) sc_parting_words.nd rfl (Or.inl rfl)) (pgs_cons (pg_tup rfl (pgs_cons (pg_name (i := 2) sc_parting_words.nd rfl (Or.inl rfl)) (pgs_cons (pg_name (i := 5) sc_parting_words.nd rfl (Or.inl rfl)) (pgs_nil)))) (pgs_nil)))) (pss_one (ps_if (pt_cmpR op_ne (pv 2) (pv 5) (nomark _)) (pss_one (ps_ret (pe_op op_cat (pe_own O_overwriting_words (hr.mono (by decide)) pass0 (pa_cons (pv 0) (pa_cons (pe_op op_add (pv 4) (pe_int)) pa_nil))) (pe_lst (pa_cons (pe_tup (pa_cons (pe_str) (pa_cons (pv 2) pa_nil))) pa_nil))))) (pss_nil))))
      (pss_one (ps_ret (pe_non)))))), ?_⟩
    obtain ⟨dx, ps, po, hb, hs, ho⟩ := id hB
    obtain ⟨dy, pt, pp, hc, ht, hp⟩ := id hC
    obtain ⟨hn, ns, ok, _⟩ := id g
    obtain ⟨_, ms, ok', _⟩ := id g2
    refine ⟨_, rfl, _, rfl, b, c, n, s, t, rfl, hB, hC, ?_⟩
    refine ⟨_, rfl, b, A.Book, dx, _, _, rfl, hb, T.Book.cl, T.b_places, rfl, _, rfl, by omega, by omega, ?_⟩
    refine for_range (fun i σ' H' => H' = H ∧ (∃ o2, σ' = [some (.ref b), some (.ref c), o2, none, none, none]) ∧ ∀ j : Nat, j < i → s.1[j]? = t.1[j]?) ⟨rfl, ⟨_, rfl⟩, fun j hj => absurd hj (Nat.not_lt_zero _)⟩ (fun i σ' H' hi pv => ?_) (fun σ' H' pv => ?_)
    · obtain ⟨rfl, ⟨o2, rfl⟩, hsame⟩ := pv
      have hi' : i < n := by omega
      have h1 : i < s.1.length := by rw [ok.len]; exact hi'
      have h2 : i < t.1.length := by rw [ok'.len]; exact hi'
      rw [show (0 : Int) + (i : Int) = (i : Int) by omega]
      refine ⟨_, rfl, b, dx, _, rfl, hb, rfl, b, dx, ps, po, n, rfl, hb, _, rfl, ps, _, (i : Int), sV s.1[i], rfl, rfl, hs.sqT, atI_nat (by rw [List.getElem?_map, List.getElem?_eq_getElem h1]; rfl), ?_⟩
      refine ⟨_, rfl, c, dy, _, rfl, hc, rfl, c, dy, pt, pp, n, rfl, hc, _, rfl, pt, _, (i : Int), sV t.1[i], rfl, rfl, ht.sqT, atI_nat (by rw [List.getElem?_map, List.getElem?_eq_getElem h2]; rfl), sc_sV _ _, _, rfl, ?_⟩
      rw [ne_sV]
      by_cases he : s.1[i] = t.1[i]
      · rw [decide_eq_true he]
        refine iteF ⟨rfl, ⟨_, rfl⟩, fun j hj => ?_⟩
        rcases Nat.lt_succ_iff_lt_or_eq.mp hj with hj | rfl
        · exact hsame j hj
        · rw [List.getElem?_eq_getElem h1, List.getElem?_eq_getElem h2, he]
      · rw [decide_eq_false he]
        refine iteT ⟨_, rfl, by show 2 ≤ sizeLine; decide, fun t0 ht0 => ⟨by show 1 ≤ sizeLine; decide, fun D hD => ?_⟩⟩
        refine q2 [[.str "short", nI i]] (.inl ⟨i, hi', fun z => he ?_, rfl⟩) D [.ref t0] _ ((Ext.upd ht0).trans (Ext.upd hD)) (ext_none (Ext.upd ht0) hD) upd_same ⟨rfl, fun j x u a bb => ?_⟩
        · rw [List.getElem?_eq_getElem h1, List.getElem?_eq_getElem h2] at z
          exact Option.some.inj z
        · cases j with
          | zero =>
            cases a
            cases bb
            exact ⟨t0, rfl, Ext.upd hD _ _ upd_same⟩
          | succ j => cases a
    · obtain ⟨rfl, ⟨o2, rfl⟩, hsame⟩ := pv
      have hslots : s.1 = t.1 := by
        refine List.ext_getElem? fun j => ?_
        by_cases hj : j < n
        · exact hsame j (by omega)
        · rw [List.getElem?_eq_none (by rw [ok.len]; omega), List.getElem?_eq_none (by rw [ok'.len]; omega)]
      have hns := same_names ok ok' hslots
      subst hns
      have hl1 := ok.olen
      have hl2 := ok'.olen
      have hle := ok.le
      refine ⟨_, rfl, b, dx, _, rfl, hb, rfl, b, n, s, rfl, hB, fun a1 ha1 => ?_⟩
      have hc1 := Ext.upd (o := .lst (s.2.map nI)) ha1 _ _ hc
      refine ⟨_, rfl, c, dy, _, rfl, hc1, rfl, c, n, t, rfl, hC.ext (Ext.upd ha1), fun a2 ha2 => ?_⟩
      refine ⟨a1, a2, s.2.map (fun (j : Nat) => (j : Int)), t.2.map (fun (j : Nat) => (j : Int)), rfl, SqL.of ?_, SqL.of ?_, by rw [List.length_map, List.length_map]; omega, by rw [List.length_map]; omega, fun D as H2 e2 hD hlen hpair => ?_⟩
      · rw [← map_nI]
        exact Ext.upd ha2 _ _ upd_same
      · rw [← map_nI]
        exact upd_same
      rw [List.length_map] at hlen
      have e02 := ((Ext.upd ha1).trans (Ext.upd ha2)).trans e2
      refine ⟨_, rfl, D, rfl, ?_⟩
      refine for_enSq (xs := as.map V.ref) (.inl (SqL.of hD)) (fun i σ' H' => Ext H2 H' ∧ (∃ o2 o4 o5, σ' = [some (.ref b), some (.ref c), o2, some (.ref D), o4, o5]) ∧ ∀ j : Nat, j < i → s.2[j]? = t.2[j]?) ⟨Ext.rfl', ⟨_, _, _, rfl⟩, fun j hj => absurd hj (Nat.not_lt_zero _)⟩ (fun i σ' H' pv => pv.1) (fun i x σ' H' T' hi pv hT => ?_) (fun σ' H' pv => ?_)
      · obtain ⟨e3, ⟨o2, o4, o5, rfl⟩, hsm⟩ := pv
        rw [List.getElem?_map] at hi
        obtain ⟨t0, ht0, rfl⟩ := Option.map_eq_some_iff.mp hi
        obtain ⟨x, y, hx, hy, htu⟩ := hpair i t0 ht0
        rw [List.getElem?_map] at hx hy
        obtain ⟨p, hp1, rfl⟩ := Option.map_eq_some_iff.mp hx
        obtain ⟨q', hq1, rfl⟩ := Option.map_eq_some_iff.mp hy
        have e4 : Ext H2 (upd H' T' (.tup [.int (i : Nat), .ref t0])) := e3.upd' hT
        refine ⟨T', _, rfl, SqT.of upd_same, rfl, _, _, rfl, _, _, rfl, ?_⟩
        have htu4 := e4 _ _ htu
        have hB4 := hB.ext (e02.trans e4)
        have hC4 := hC.ext (e02.trans e4)
        generalize upd H' T' (.tup [.int (i : Nat), .ref t0]) = H4 at e4 htu4 hB4 hC4 ⊢
        refine ⟨t0, _, rfl, SqT.of htu4, rfl, _, _, rfl, _, _, rfl, rfl, rfl, ?_⟩
        refine ⟨_, rfl, _, rfl, rfl, _, rfl, ?_⟩
        rw [dvi]
        by_cases he : p = q'
        · rw [decide_eq_true (show (p : Int) = (q' : Int) by omega)]
          refine iteF ⟨e4, ⟨_, _, _, rfl⟩, fun j hj => ?_⟩
          rcases Nat.lt_succ_iff_lt_or_eq.mp hj with hj | rfl
          · exact hsm j hj
          · rw [hp1, hq1, he]
        · rw [decide_eq_false (show ¬ (p : Int) = (q' : Int) by omega)]
          have hil := (List.getElem?_eq_some_iff.mp hp1).1
          refine iteT ⟨_, rfl, _, rfl, _, _, rfl, rfl, b, n, i + 1, s, rfl, hB4, g, by omega, fun D2 ws2 H5 e5 hn2 hD2 hw2 => ?_⟩
          refine ⟨_, rfl, by show 2 ≤ sizeLine; decide, fun u hu => ⟨by show 1 ≤ sizeLine; decide, fun D3 hD3 => ⟨D2, D3, _, _, rfl, rfl, Ext.upd hD3 _ _ (Ext.upd hu _ _ hD2), upd_same, ?_, fun D5 hD5 => ?_⟩⟩⟩
          · rw [hw2.1, List.length_map]
            have : (overs n s (i + 1)).length ≤ 26 := by
              unfold overs fresh
              rw [List.length_take]
              exact Nat.le_trans (Nat.min_le_right _ _) (Nat.le_trans (List.length_filter_le _ _) (by decide))
            exact Nat.le_of_lt (small_sz (by show _ + 1 ≤ 2000; omega))
          · have e6 := ((e4.trans e5).trans (Ext.upd hu)).trans (Ext.upd (o := .lst [.ref u]) hD3)
            refine q2 _ (.inr ⟨hslots, i, p, q', hp1, hq1, he, hsm, rfl⟩) D5 _ _ ((e02.trans e6).trans (Ext.upd hD5)) (ext_none (e02.trans e6) hD5) upd_same ?_
            refine Ws.snoc (hw2.keep fun q0 t1 z => Ext.upd hD5 _ _ (Ext.upd hD3 _ _ (Ext.upd hu _ _ z))) (Ext.upd hD5 _ _ (Ext.upd hD3 _ _ ?_))
            exact upd_same
      · obtain ⟨e3, ⟨o2, o4, o5, rfl⟩, hsm⟩ := pv
        rw [List.length_map] at hsm
        refine q1 (Prod.ext hslots (List.ext_getElem? fun j => ?_)) _ (e02.trans e3)
        by_cases hj : j < as.length
        · exact hsm j hj
        · rw [List.getElem?_eq_none (by omega), List.getElem?_eq_none (by omega)]
end
end K02

set_option Elab.async false
set_option maxRecDepth 100000
set_option maxHeartbeats 4000000
namespace K02
open PySem PySem.Spec PyProof.Rows L2
def partsD (n : Nat) : St Str → St Str → List PyData → Bool
  | _, _, [] => false
  | s, t, [d] => decide (readD d n s ≠ readD d n t)
  | s, t, d :: ds => match readD d n s with
    | none => false
    | some h => decide (readD d n t = some h) && partsD n (step s h) (step t h) ds
theorem partsD_cons {n : Nat} {s t : St Str} {d : PyData} {ds : List PyData} (h : ds ≠ []) : partsD n s t (d :: ds) = (match readD d n s with | none => false | some h => decide (readD d n t = some h) && partsD n (step s h) (step t h) ds) := by
  cases ds with
  | nil => exact absurd rfl h
  | cons _ _ => rfl
def isP (d : PyData) (n : Nat) (s t : St Str) : Bool := match d with | .list ds => partsD n s t ds | _ => false
theorem cut_last {xs : List V} : cutV xs none (some (-1)) = xs.dropLast := by
  unfold cutV
  rw [HT.sIx_none, List.drop_zero, Nat.sub_zero, List.dropLast_eq_take]
  congr 1
  show (if (-1 : Int) < 0 then ((-1 : Int) + (xs.length : Int)).toNat else min (-1 : Int).toNat xs.length) = xs.length - 1
  rw [if_pos (by decide)]
  omega
theorem atI_last {xs : List V} (h : 0 < xs.length) : atI xs (-1) = xs[xs.length - 1]? := by
  unfold atI ixN
  rw [if_neg (by decide), if_pos (by omega)]
  show xs[((-1 : Int) + (xs.length : Int)).toNat]? = _
  rw [show ((-1 : Int) + (xs.length : Int)).toNat = xs.length - 1 by omega]
section
variable {P : Program} {w : World} {K : PySem.W.Frag} {mg : Str → Option Value} {base : Heap} {A : Ad}
def spIsPart (K : PySem.W.Frag) (A : Ad) : Sp := fun vs H Q _ => ∃ (b c : Addr) (n : Nat) (s t : St Str) (v : V) (d : PyData), vs = [.ref b, .ref c, v] ∧ BkAt K A H b n s ∧ BkAt K A H c n t ∧ Good n s ∧ Good n t ∧ Dp K H v d ∧ (∀ ds, d = .list ds → ds.length ≤ 1000 ∧ ∀ x ∈ ds, SmD (sndD x)) ∧ ∀ H', Ext H H' → Q (.bl (isP d n s t)) H'
theorem ok_isPart {f : Addr} {fd : FuncData} (F : Fun K "is_parting" "is_parting" s_is_parting f fd) (T : Txt K mg A) (O_check_pair : Own P w K mg base (L2.CX P w) "check_pair" 3 pm_check_pair (spPair K A)) (O_read_head : Own P w K mg base CX0 "read_head" 5 pm_read_head (spReadHead K A))
    (O_Book_used : OwnM P w K mg base (L2.CX P w) A.Book "used" 7 pm_Book_used (spUsed K A)) : FnOk P w K mg base (L2.CX P w) 8 f fd pm_is_parting (spIsPart K A) := by
  refine F.okX sc_is_parting (fun vs H Q E h => ?_) (fun cdv A' outer sh H vs Q E hr h => ?_)
  · obtain ⟨_, _, _, _, _, _, _, rfl, _⟩ := h
    rfl
  · obtain ⟨b, c, n, s, t, v, d, rfl, hB, hC, g, g2, hd, hsm, q⟩ := h
    refine ⟨_, pss_cons (ps_expr (pe_ownS O_check_pair (hr.mono (by decide)) (takes_of rfl rfl rfl rfl) (pa_cons (pv 0) (pa_cons (pv 1) pa_nil))))
      (pss_cons (ps_if (PW.pt (pw_or (pt_not (pt_val (pe_callB call_isi (by rfl) T.n_isinstance (by decide +kernel) (pa_cons (pv 2) (pa_cons (pe_bltn (v := .ty "list") (by rfl) T.n_list (by decide +kernel) rfl) pa_nil))))) (pw_or1 (pt_cmpR op_eq (pe_callB call_len_seq (by rfl) T.n_len (by decide +kernel) (pa_cons (pv 2) pa_nil)) (pe_int) (nomark _))))) (pss_one (ps_ret (pe_bl))) (pss_nil))
      (pss_cons (ps_for (passes_of rfl) rfl (pi_sq (pe_slice sl_list (pv 2) po_none (po_some (pe_un un_neg (pe_int))))) (pg_name (i := 3) sc_is_parting.nd rfl (Or.inl rfl)) (pss_cons (ps_set (i := 4) sc_is_parting.nd rfl (Or.inl rfl) (pe_own O_read_head (hr.mono (by decide)) pass0 (pa_cons (pv 0) (pa_cons (pv 3) pa_nil))))
      (pss_cons (ps_if (PW.pt (pw_or (pt_cmpR op_isN (pv 4) (pe_non) (nomark _)) (pw_or1 (pt_cmpR op_ne (pv 4) (pe_own O_read_head (hr.mono (by decide)) pass0 (pa_cons (pv 1) (pa_cons (pv 3) pa_nil))) (nomark _))))) (pss_one (ps_ret (pe_bl))) (pss_nil))
      (pss_cons (ps_set (i := 0) sc_is_parting.nd rfl (Or.inl rfl) (pe_ownM O_Book_used (pv 0) T.Book.cl (hr.mono (by decide)) passL (pa_cons (pv 4) pa_nil)))
      (pss_one (ps_set (i := 1) sc_is_parting.nd rfl (Or.inl rfl) (pe_ownM O_Book_used (pv 1) T.Book.cl (hr.mono (by decide)) passL (pa_cons (pv 4) pa_nil))))))))
      (pss_one (ps_ret (pe_cmpR op_ne (pe_own O_read_head (hr.mono (by decide)) pass0 (pa_cons (pv 0) (pa_cons (pe_ix ix_list (pv 2) (pe_un un_neg (pe_int)) (fun _ _ => rfl)) pa_nil))) (pe_own O_read_head (hr.mono (by decide)) pass0 (pa_cons (pv 1) (pa_cons (pe_ix ix_list (pv 2) (pe_un un_neg (pe_int)) (fun _ _ => rfl)) pa_nil))) (nomark _)))))), ?_⟩
    refine ⟨_, rfl, _, rfl, b, c, n, s, t, rfl, hB, hC, ?_⟩
    refine ⟨v, rfl, v, .ty "list", .type (tnD d), .type "list", isListD d, rfl, .ty _, dp_ty hd, kd_list, _, rfl, ?_⟩
    cases h1 : isListD d with
    | false =>
      have e : isP d n s t = false := by cases d <;> first | rfl | cases h1
      rw [e] at q
      exact iteT (q H Ext.rfl')
    | true =>
      refine iteF ?_
      obtain ⟨ds, rfl⟩ : ∃ ds, d = .list ds := by cases d <;> first | exact ⟨_, rfl⟩ | cases h1
      obtain ⟨hlen, hsd⟩ := hsm ds rfl
      obtain ⟨a, xs, rfl, hL, ha⟩ : ∃ a xs, v = .ref a ∧ SqL K H a xs ∧ DpAll K H xs ds := by
        cases hd with
        | lst h1 h2 => exact ⟨_, _, rfl, h1, h2⟩
      have hxl := dps_len ha
      refine ⟨_, rfl, a, xs, rfl, .inl hL, rfl, _, rfl, ?_⟩
      rw [dvi]
      by_cases hz : xs.length = 0
      · rw [decide_eq_true (show (xs.length : Int) = 0 by omega)]
        have e : ds = [] := List.length_eq_zero_iff.mp (by omega)
        subst e
        exact iteT (q H Ext.rfl')
      · rw [decide_eq_false (show ¬ (xs.length : Int) = 0 by omega)]
        refine iteF ⟨_, rfl, 1, rfl, -1, rfl, a, xs, rfl, hL, fun l hl => ⟨l, rfl, ?_⟩⟩
        rw [cut_last]
        have hds : ds ≠ [] := fun z => hz (by rw [hxl, z]; rfl)
        have ha1 := dps_ext (Ext.upd (o := .lst xs.dropLast) hl) _ _ ha
        have hL1 := hL.ext (Ext.upd (o := .lst xs.dropLast) hl)
        have e1 : Ext H (upd H l (.lst xs.dropLast)) := Ext.upd hl
        have hl1 : (upd H l (.lst xs.dropLast)) l = some (.lst xs.dropLast) := upd_same
        generalize upd H l (.lst xs.dropLast) = H1 at ha1 hL1 e1 hl1 ⊢
        refine for_sq (xs := xs.dropLast) (.inl (SqL.of hl1)) (fun i σ' H' => Ext H1 H' ∧ ∃ b' c' o3 o4 s' t', σ' = [some (.ref b'), some (.ref c'), some (.ref a), o3, o4] ∧ BkAt K A H' b' n s' ∧ BkAt K A H' c' n t' ∧ Good n s' ∧ Good n t' ∧ partsD n s t ds = partsD n s' t' (ds.drop i))
          ⟨Ext.rfl', b, c, _, _, s, t, rfl, hB.ext e1, hC.ext e1, g, g2, rfl⟩ (fun i σ' H' pv => pv.1) (fun i x σ' H' hi pv => ?_) (fun σ' H' pv => ?_)
        · obtain ⟨e2, b', c', o3, o4, s', t', rfl, hB', hC', gs, gt, hpd⟩ := pv
          have hil := (List.getElem?_eq_some_iff.mp hi).1
          rw [List.length_dropLast] at hil
          have hix : xs[i]? = some x := by
            rw [List.dropLast_eq_take, List.getElem?_take_of_lt (by omega)] at hi
            exact hi
          obtain ⟨d0, hdi, hdv⟩ := dps_get (dps_ext e2 _ _ ha1) hix
          have hdrop : ds.drop i = d0 :: ds.drop (i + 1) := by
            have hlt := (List.getElem?_eq_some_iff.mp hdi)
            rw [List.drop_eq_getElem_cons hlt.1, hlt.2]
          have hne : ds.drop (i + 1) ≠ [] := fun z => by
            have := congrArg List.length z
            rw [List.length_drop] at this
            have h0 : ds.length - (i + 1) = 0 := this
            omega
          have hsd0 := hsd d0 (List.mem_of_getElem? hdi)
          rw [hdrop, partsD_cons hne] at hpd
          refine ⟨_, rfl, _, rfl, b', n, s', _, d0, rfl, hB', gs, hdv, hsd0, fun H3 e3 => ⟨_, rfl, rfl, _, rfl, ?_⟩⟩
          rw [nn_sV]
          cases hr1 : readD d0 n s' with
          | none =>
            rw [hr1] at hpd
            have z := q _ (e1.trans (e2.trans e3))
            rw [show isP (.list ds) n s t = false from hpd] at z
            exact iteT z
          | some h =>
            rw [hr1] at hpd
            refine iteF ⟨_, rfl, _, rfl, _, rfl, c', n, t', _, d0, rfl, hC'.ext e3, gt, dp_ext e3 _ _ hdv, hsd0, fun H4 e4 => ⟨sc_sV (some h) _, _, rfl, ?_⟩⟩
            rw [ne_sV]
            by_cases hr2 : readD d0 n t' = some h
            · rw [decide_eq_true (show some h = readD d0 n t' from hr2.symm)]
              dsimp only at hpd
              rw [decide_eq_true hr2, Bool.true_and] at hpd
              have hn := read_name gs hr1
              have hsm1 : SmD (.str h) := by
                have := name_len hn
                show h.length ≤ 1000
                omega
              have hnm : nameD (.str h) = true := hn
              have hB4 := (hB'.ext e3).ext e4
              obtain ⟨dx, ps, po, hb, _, _⟩ := id hB4
              refine iteF ⟨_, rfl, b', dx, _, rfl, hb, rfl, _, rfl, b', n, s', _, .str h, rfl, hB4, gs, .str h, hsm1, fun z => (by rw [hnm] at z; cases z), fun h' eh _ b2 H5 e5 hb2 => ?_⟩
              cases eh
              have hC5 := ((hC'.ext e3).ext e4).ext e5
              obtain ⟨dy, pt, pp, hc, _, _⟩ := id hC5
              refine ⟨_, rfl, c', dy, _, rfl, hc, rfl, _, rfl, c', n, t', _, .str h, rfl, hC5, gt, .str h, hsm1, fun z => (by rw [hnm] at z; cases z), fun h' eh _ c2 H6 e6 hc2 => ?_⟩
              cases eh
              exact ⟨(((e2.trans e3).trans e4).trans e5).trans e6, b2, c2, _, _, _, _, rfl, hb2.ext e6, hc2, good_step gs hn, good_step gt hn, hpd⟩
            · rw [decide_eq_false (show ¬ some h = readD d0 n t' from fun z => hr2 z.symm)]
              dsimp only at hpd
              rw [decide_eq_false hr2, Bool.false_and] at hpd
              have z := q _ (e1.trans ((e2.trans e3).trans e4))
              rw [show isP (.list ds) n s t = false from hpd] at z
              exact iteT z
        · obtain ⟨e2, b', c', o3, o4, s', t', rfl, hB', hC', gs, gt, hpd⟩ := pv
          rw [List.length_dropLast] at hpd
          obtain ⟨x, hx⟩ : ∃ x, xs[xs.length - 1]? = some x := ⟨_, List.getElem?_eq_getElem (by omega)⟩
          obtain ⟨d0, hdi, hdv⟩ := dps_get (dps_ext e2 _ _ ha1) hx
          have hlt := List.getElem?_eq_some_iff.mp hdi
          have hdrop : ds.drop (xs.length - 1) = [d0] := by
            rw [List.drop_eq_getElem_cons hlt.1, hlt.2, List.drop_of_length_le (by omega)]
          rw [hdrop] at hpd
          have hsd0 := hsd d0 (List.mem_of_getElem? hdi)
          have hL2 := hL1.ext e2
          refine ⟨_, rfl, _, rfl, 1, rfl, a, xs, -1, x, rfl, rfl, hL2, (atI_last (by omega)).trans hx, b', n, s', x, d0, rfl, hB', gs, hdv, hsd0, fun H3 e3 => ?_⟩
          refine ⟨_, rfl, _, rfl, 1, rfl, a, xs, -1, x, rfl, rfl, hL2.ext e3, (atI_last (by omega)).trans hx, c', n, t', x, d0, rfl, hC'.ext e3, gt, dp_ext e3 _ _ hdv, hsd0, fun H4 e4 => ⟨sc_sV _ _, ?_⟩⟩
          rw [ne_sV]
          have z := q _ (e1.trans ((e2.trans e3).trans e4))
          rw [show isP (.list ds) n s t = !decide (readD d0 n s' = readD d0 n t') from hpd.trans (by rw [← decide_not]; rfl)] at z
          exact z
end
end K02

set_option Elab.async false
set_option maxRecDepth 100000
set_option maxHeartbeats 4000000
namespace K02
open PySem PySem.Spec PyProof.Rows L2
/-- data, or {} -/
def Thg (K : PySem.W.Frag) (H : Hp) (v : V) (d : PyData) : Prop := Dp K H v d ∨ (d = .dict [] ∧ ∃ a, v = .ref a ∧ H a = some (.dK []))
theorem Thg.ext {K : PySem.W.Frag} {H H' : Hp} {v : V} {d : PyData} (h : Thg K H v d) (e : Ext H H') : Thg K H' v d := by
  rcases h with h | ⟨h, a, rfl, h2⟩
  · exact .inl (dp_ext e _ _ h)
  · exact .inr ⟨h, a, rfl, e _ _ h2⟩
theorem Thg.ty {K : PySem.W.Frag} {H : Hp} {v : V} {d : PyData} (h : Thg K H v d) : TyX K H v (.type (tnD d)) := by
  rcases h with h | ⟨rfl, a, rfl, h2⟩
  · exact dp_ty h
  · exact .base (.dK h2)
section
variable {P : Program} {w : World} {K : PySem.W.Frag} {mg : Str → Option Value} {base : Heap} {A : Ad}
def spHeadsX (K : PySem.W.Frag) (A : Ad) : Sp := fun vs H Q E => ∃ (v : V) (d : PyData), vs = [v] ∧ Thg K H v d ∧ isSeqD d = false ∧ ErrH A E H .non
theorem ok_headsX {f : Addr} {fd : FuncData} (F : Fun K "check_heads" "check_heads" s_check_heads f fd) (T : Txt K mg A) (O_is_list : Own P w K mg base CX0 "is_list" 1 pm_is_list (spIsList K)) (O_is_name : Own P w K mg base CX0 "is_name" 1 pm_is_name (spName K)) (X_BadHead : XCls P w K mg base "BadHead" "index" A.BadHead) : FnOk P w K mg base (L2.CX P w) 3 f fd pm_check_heads (spHeadsX K A) := by
  refine F.okX sc_check_heads (fun vs H Q E h => ?_) (fun cdv A' outer s H vs Q E hr h => ?_)
  · obtain ⟨_, _, rfl, _⟩ := h
    rfl
  · obtain ⟨v, d, rfl, hd, h1, e1⟩ := h
    refine ⟨_, pss_cons (ps_if (pt_not (pt_val (pe_own O_is_list (hr.mono (by decide)) pass0 (pa_cons (pv 0) pa_nil)))) (pss_one (ps_raise rfl (takes_of rfl rfl rfl rfl) (pmk_X X_BadHead (hr.mono (by decide)) (pe_non) rfl))) (pss_nil))
      (pss_one (ps_for (passes_of rfl) rfl (pi_enSq rfl T.n_enumerate (pa_cons (pv 0) pa_nil)) (pg_tup rfl (pgs_cons (pg_name (i := 1) sc_check_heads.nd rfl (Or.inl rfl)) (pgs_cons (pg_name (i := 2) sc_check_heads.nd rfl (Or.inl rfl)) (pgs_nil)))) (pss_one (ps_if (pt_not (pt_val (pe_own O_is_name (hr.mono (by decide)) pass0 (pa_cons (pv 2) pa_nil)))) (pss_one (ps_raise rfl (takes_of rfl rfl rfl rfl) (pmk_X X_BadHead (hr.mono (by decide)) (pv 1) rfl))) (pss_nil))))), ?_⟩
    refine ⟨v, rfl, v, .type (tnD d), isSeqD d, rfl, fun H' e => (hd.ext e).ty, by rw [kd_seq], fun H1 x1 => ⟨_, rfl, ?_⟩⟩
    rw [h1]
    exact iteT (mkX_fin fun e he => e1 _ x1 e he)
def spBookX (K : PySem.W.Frag) (A : Ad) : Sp := fun vs H Q E => ∃ (p dx : Addr) (n : Nat) (vu : V) (du : PyData), vs = [.ref p, .int (n : Int), vu] ∧ n ≤ 4 ∧ Thg K H vu du ∧ isSeqD du = false ∧ ErrH A E H .non
theorem ok_bookX {f : Addr} {fd : FuncData} (F : FunD K "__init__" "Book.__init__" (defArgs s_Book_init) (defBody s_Book_init) (defScope s_Book_init) [.ref A.T0] [] f fd) (T : Txt K mg A)
    (O_check_places : Own P w K mg base (L2.CX P w) "check_places" 4 pm_check_places (spPlaces K A)) (O_check_heads : Own P w K mg base (L2.CX P w) "check_heads" 3 pm_check_heads (spHeadsX K A)) (O_slots_behind : Own P w K mg base CX0 "slots_behind" 2 pm_slots_behind (spBehind K)) :
    FnOk P w K mg base (L2.CX P w) 5 f fd pm_Book_init (spBookX K A) := by
  refine F.ok sc_Book_init (fun vs H Q E h => ?_) (fun cdv A' outer s H vs Q E hr h => ?_)
  · obtain ⟨_, _, _, _, _, rfl, _⟩ := h
    rfl
  · obtain ⟨p, dx, n, vu, du, rfl, hn, hvu, h1, hE⟩ := h
    refine ⟨_, pss_cons (ps_expr (pe_ownS O_check_places (hr.mono (by decide)) (takes_of rfl rfl rfl rfl) (pa_cons (pv 1) pa_nil)))
      (pss_cons (ps_expr (pe_ownS O_check_heads (hr.mono (by decide)) (takes_of rfl rfl rfl rfl) (pa_cons (pv 2) pa_nil)))
      (pss_cons (ps_asg (pe_own O_slots_behind (hr.mono (by decide)) pass0 (pa_cons (pv 1) (pa_cons (pv 2) pa_nil))) (pg_tup rfl (pgs_cons (pg_name (i := 3) sc_Book_init.nd rfl (Or.inl rfl)) (pgs_cons (pg_name (i := 4) sc_Book_init.nd rfl (Or.inl rfl)) (pgs_nil)))))
      (pss_cons (ps_fld (pv 0) (pv 1) rfl)
      (pss_cons (ps_fld (pv 0) (pv 3) rfl)
      (pss_one (ps_fld (pv 0) (pv 4) rfl)))))), ?_⟩
    have hb : betD (.int (n : Int)) 0 4 = true := by simp [betD]; omega
    refine ⟨_, rfl, _, .int (n : Int), rfl, .int _, fun z => (by rw [hb] at z; cases z), fun _ => ?_⟩
    exact ⟨vu, rfl, vu, du, rfl, hvu, h1, hE⟩
def spCheckBookX (K : PySem.W.Frag) (A : Ad) : Sp := fun vs H Q E => ∃ (v : V) (d : PyData), vs = [v] ∧ Thg K H v d ∧ ErrP A E H "book"
theorem ok_checkBookX {f : Addr} {fd : FuncData} (F : Fun K "check_book" "check_book" s_check_book f fd) (T : Txt K mg A) (X_BadPart : XCls P w K mg base "BadPart" "part" A.BadPart) : FnOk P w K mg base (L2.CX P w) 3 f fd pm_check_book (spCheckBookX K A) := by
  refine F.okX sc_check_book (fun vs H Q E h => ?_) (fun cdv A' outer sh H vs Q E hr h => ?_)
  · obtain ⟨_, _, rfl, _⟩ := h
    rfl
  · obtain ⟨v, d, rfl, hd, hE⟩ := h
    refine ⟨_, pss_one (ps_if (pt_not (pt_val (pe_callB call_isi (by rfl) T.n_isinstance (by decide +kernel) (pa_cons (pv 0) (pa_cons (pe_gcls T.Book.gC) pa_nil))))) (pss_one (ps_raise rfl (takes_of rfl rfl rfl rfl) (pmk_X X_BadPart (hr.mono (by decide)) (pe_str) rfl))) (pss_nil)), ?_⟩
    refine ⟨_, rfl, _, .ref A.Book, .type (tnD d), .ref A.Book, false, rfl, .own _, hd.ty, T.Book.kitB (sub_ty_ref kd_find) rfl, _, rfl, ?_⟩
    exact iteT (mkX_fin fun e he => hE _ Ext.rfl' e he)
def spWriteX (K : PySem.W.Frag) (A : Ad) : Sp := fun vs H Q E => ∃ (v u : V) (d : PyData), vs = [v, u] ∧ Thg K H v d ∧ ErrP A E H "book"
theorem ok_writeX {f : Addr} {fd : FuncData} (F : Fun K "write_heads" "write_heads" s_write_heads f fd) (T : Txt K mg A) (O_check_book : Own P w K mg base (L2.CX P w) "check_book" 3 pm_check_book (spCheckBookX K A)) (O_check_heads : Own P w K mg base (L2.CX P w) "check_heads" 3 pm_check_heads (spHeads K A))
    (O_Book_word_for : OwnM P w K mg base (L2.CX P w) A.Book "word_for" 4 pm_Book_word_for (spWordFor K A)) (O_Book_used : OwnM P w K mg base (L2.CX P w) A.Book "used" 7 pm_Book_used (spUsed K A)) : FnOk P w K mg base (L2.CX P w) 8 f fd pm_write_heads (spWriteX K A) := by
  refine F.okX sc_write_heads (fun vs H Q E h => ?_) (fun cdv A' outer sh H vs Q E hr h => ?_)
  · obtain ⟨_, _, _, rfl, _⟩ := h
    rfl
  · obtain ⟨v, u, d, rfl, hd, hE⟩ := h
    refine ⟨_, pss_cons (ps_expr (pe_ownS O_check_book (hr.mono (by decide)) (takes_of rfl rfl rfl rfl) (pa_cons (pv 0) pa_nil)))
      (pss_cons (ps_expr (pe_ownS O_check_heads (hr.mono (by decide)) (takes_of rfl rfl rfl rfl) (pa_cons (pv 1) pa_nil)))
      (pss_cons (ps_set (i := 2) sc_write_heads.nd rfl (Or.inl rfl) (pe_lst (pa_nil)))
      (pss_cons (ps_for (passes_of rfl) rfl (pi_sq (pv 1)) (pg_name (i := 3) sc_write_heads.nd rfl (Or.inl rfl)) (pss_cons (ps_expr (pe_bm PySem.F.plainAttrs_list PySem.F.slot_list_append PySem.F.type_list_append mt_append (pv 2) (pa_cons (pe_ownM O_Book_word_for (pv 0) T.Book.cl (hr.mono (by decide)) passL (pa_cons (pv 3) pa_nil)) pa_nil)))
      (pss_one (ps_set (i := 0) sc_write_heads.nd rfl (Or.inl rfl) (pe_ownM O_Book_used (pv 0) T.Book.cl (hr.mono (by decide)) passL (pa_cons (pv 3) pa_nil))))))
      (pss_one (ps_ret (pe_tup (pa_cons (pv 2) (pa_cons (pv 0) pa_nil)))))))), ?_⟩
    exact ⟨_, rfl, v, d, rfl, hd, hE⟩
def spWriteY (K : PySem.W.Frag) (A : Ad) : Sp := fun vs H Q E => ∃ (b : Addr) (n : Nat) (s : St Str) (u : V) (d : PyData), vs = [.ref b, u] ∧ BkAt K A H b n s ∧ Thg K H u d ∧ isSeqD d = false ∧ ErrH A E H .non
theorem ok_writeY {f : Addr} {fd : FuncData} (F : Fun K "write_heads" "write_heads" s_write_heads f fd) (T : Txt K mg A) (O_check_book : Own P w K mg base (L2.CX P w) "check_book" 3 pm_check_book (spCheckBook K A)) (O_check_heads : Own P w K mg base (L2.CX P w) "check_heads" 3 pm_check_heads (spHeadsX K A))
    (O_Book_word_for : OwnM P w K mg base (L2.CX P w) A.Book "word_for" 4 pm_Book_word_for (spWordFor K A)) (O_Book_used : OwnM P w K mg base (L2.CX P w) A.Book "used" 7 pm_Book_used (spUsed K A)) : FnOk P w K mg base (L2.CX P w) 8 f fd pm_write_heads (spWriteY K A) := by
  refine F.okX sc_write_heads (fun vs H Q E h => ?_) (fun cdv A' outer sh H vs Q E hr h => ?_)
  · obtain ⟨_, _, _, _, _, rfl, _⟩ := h
    rfl
  · obtain ⟨b, n, s, u, d, rfl, hB, hd, h1, hE⟩ := h
    refine ⟨_, pss_cons (ps_expr (pe_ownS O_check_book (hr.mono (by decide)) (takes_of rfl rfl rfl rfl) (pa_cons (pv 0) pa_nil)))
      (pss_cons (ps_expr (pe_ownS O_check_heads (hr.mono (by decide)) (takes_of rfl rfl rfl rfl) (pa_cons (pv 1) pa_nil)))
      (pss_cons (ps_set (i := 2) sc_write_heads.nd rfl (Or.inl rfl) (pe_lst (pa_nil)))
      (pss_cons (ps_for (passes_of rfl) rfl (pi_sq (pv 1)) (pg_name (i := 3) sc_write_heads.nd rfl (Or.inl rfl)) (pss_cons (ps_expr (pe_bm PySem.F.plainAttrs_list PySem.F.slot_list_append PySem.F.type_list_append mt_append (pv 2) (pa_cons (pe_ownM O_Book_word_for (pv 0) T.Book.cl (hr.mono (by decide)) passL (pa_cons (pv 3) pa_nil)) pa_nil)))
      (pss_one (ps_set (i := 0) sc_write_heads.nd rfl (Or.inl rfl) (pe_ownM O_Book_used (pv 0) T.Book.cl (hr.mono (by decide)) passL (pa_cons (pv 3) pa_nil))))))
      (pss_one (ps_ret (pe_tup (pa_cons (pv 2) (pa_cons (pv 0) pa_nil)))))))), ?_⟩
    exact ⟨_, rfl, _, rfl, .inl ⟨b, n, s, rfl, hB, _, rfl, u, d, rfl, hd, h1, hE⟩⟩
def spReadX (K : PySem.W.Frag) (A : Ad) : Sp := fun vs H Q E => ∃ (v u : V) (d : PyData), vs = [v, u] ∧ Thg K H v d ∧ ErrP A E H "book"
theorem ok_readX {f : Addr} {fd : FuncData} (F : Fun K "read_words" "read_words" s_read_words f fd) (T : Txt K mg A) (O_check_book : Own P w K mg base (L2.CX P w) "check_book" 3 pm_check_book (spCheckBookX K A)) (O_is_list : Own P w K mg base CX0 "is_list" 1 pm_is_list (spIsList K))
    (O_read_head : Own P w K mg base CX0 "read_head" 5 pm_read_head (spReadHead K A)) (O_Book_used : OwnM P w K mg base (L2.CX P w) A.Book "used" 7 pm_Book_used (spUsed K A)) (X_BadWords : XCls P w K mg base "BadWords" "index" A.BadWords) : FnOk P w K mg base (L2.CX P w) 8 f fd pm_read_words (spReadX K A) := by
  refine F.okX sc_read_words (fun vs H Q E h => ?_) (fun cdv A' outer sh H vs Q E hr h => ?_)
  · obtain ⟨_, _, _, rfl, _⟩ := h
    rfl
  · obtain ⟨v, u, d, rfl, hd, hE⟩ := h
    refine ⟨_, pss_cons (ps_expr (pe_ownS O_check_book (hr.mono (by decide)) (takes_of rfl rfl rfl rfl) (pa_cons (pv 0) pa_nil)))
      (pss_cons (ps_if (pt_not (pt_val (pe_own O_is_list (hr.mono (by decide)) pass0 (pa_cons (pv 1) pa_nil)))) (pss_one (ps_raise rfl (takes_of rfl rfl rfl rfl) (pmk_X X_BadWords (hr.mono (by decide)) (pe_non) rfl))) (pss_nil))
      (pss_cons (ps_set (i := 2) sc_read_words.nd rfl (Or.inl rfl) (pe_lst (pa_nil)))
      (pss_cons (ps_for (passes_of rfl) rfl (pi_enSq rfl T.n_enumerate (pa_cons (pv 1) pa_nil)) (pg_tup rfl (pgs_cons (pg_name (i := 3) sc_read_words.nd rfl (Or.inl rfl)) (pgs_cons (pg_name (i := 4) sc_read_words.nd rfl (Or.inl rfl)) (pgs_nil)))) (pss_cons (ps_set (i := 5) sc_read_words.nd rfl (Or.inl rfl) (pe_own O_read_head (hr.mono (by decide)) pass0 (pa_cons (pv 0) (pa_cons (pv 4) pa_nil))))
      (pss_cons (ps_if (pt_cmpR op_isN (pv 5) (pe_non) (nomark _)) (pss_one (ps_raise rfl (takes_of rfl rfl rfl rfl) (pmk_X X_BadWords (hr.mono (by decide)) (pv 3) rfl))) (pss_nil))
      (pss_cons (ps_expr (pe_bm PySem.F.plainAttrs_list PySem.F.slot_list_append PySem.F.type_list_append mt_append (pv 2) (pa_cons (pv 5) pa_nil)))
      (pss_one (ps_set (i := 0) sc_read_words.nd rfl (Or.inl rfl) (pe_ownM O_Book_used (pv 0) T.Book.cl (hr.mono (by decide)) passL (pa_cons (pv 5) pa_nil))))))))
      (pss_one (ps_ret (pe_tup (pa_cons (pv 2) (pa_cons (pv 0) pa_nil)))))))), ?_⟩
    exact ⟨_, rfl, v, d, rfl, hd, hE⟩
def spReadY (K : PySem.W.Frag) (A : Ad) : Sp := fun vs H Q E => ∃ (b : Addr) (n : Nat) (s : St Str) (u : V) (d : PyData), vs = [.ref b, u] ∧ BkAt K A H b n s ∧ Thg K H u d ∧ isSeqD d = false ∧ ErrWs A E H .non
theorem ok_readY {f : Addr} {fd : FuncData} (F : Fun K "read_words" "read_words" s_read_words f fd) (T : Txt K mg A) (O_check_book : Own P w K mg base (L2.CX P w) "check_book" 3 pm_check_book (spCheckBook K A)) (O_is_list : Own P w K mg base CX0 "is_list" 1 pm_is_list (spIsList K))
    (O_read_head : Own P w K mg base CX0 "read_head" 5 pm_read_head (spReadHead K A)) (O_Book_used : OwnM P w K mg base (L2.CX P w) A.Book "used" 7 pm_Book_used (spUsed K A)) (X_BadWords : XCls P w K mg base "BadWords" "index" A.BadWords) : FnOk P w K mg base (L2.CX P w) 8 f fd pm_read_words (spReadY K A) := by
  refine F.okX sc_read_words (fun vs H Q E h => ?_) (fun cdv A' outer sh H vs Q E hr h => ?_)
  · obtain ⟨_, _, _, _, _, rfl, _⟩ := h
    rfl
  · obtain ⟨b, n, s, u, d, rfl, hB, hd, h1, hE⟩ := h
    refine ⟨_, pss_cons (ps_expr (pe_ownS O_check_book (hr.mono (by decide)) (takes_of rfl rfl rfl rfl) (pa_cons (pv 0) pa_nil)))
      (pss_cons (ps_if (pt_not (pt_val (pe_own O_is_list (hr.mono (by decide)) pass0 (pa_cons (pv 1) pa_nil)))) (pss_one (ps_raise rfl (takes_of rfl rfl rfl rfl) (pmk_X X_BadWords (hr.mono (by decide)) (pe_non) rfl))) (pss_nil))
      (pss_cons (ps_set (i := 2) sc_read_words.nd rfl (Or.inl rfl) (pe_lst (pa_nil)))
      (pss_cons (ps_for (passes_of rfl) rfl (pi_enSq rfl T.n_enumerate (pa_cons (pv 1) pa_nil)) (pg_tup rfl (pgs_cons (pg_name (i := 3) sc_read_words.nd rfl (Or.inl rfl)) (pgs_cons (pg_name (i := 4) sc_read_words.nd rfl (Or.inl rfl)) (pgs_nil)))) (pss_cons (ps_set (i := 5) sc_read_words.nd rfl (Or.inl rfl) (pe_own O_read_head (hr.mono (by decide)) pass0 (pa_cons (pv 0) (pa_cons (pv 4) pa_nil))))
      (pss_cons (ps_if (pt_cmpR op_isN (pv 5) (pe_non) (nomark _)) (pss_one (ps_raise rfl (takes_of rfl rfl rfl rfl) (pmk_X X_BadWords (hr.mono (by decide)) (pv 3) rfl))) (pss_nil))
      (pss_cons (ps_expr (pe_bm PySem.F.plainAttrs_list PySem.F.slot_list_append PySem.F.type_list_append mt_append (pv 2) (pa_cons (pv 5) pa_nil)))
      (pss_one (ps_set (i := 0) sc_read_words.nd rfl (Or.inl rfl) (pe_ownM O_Book_used (pv 0) T.Book.cl (hr.mono (by decide)) passL (pa_cons (pv 5) pa_nil))))))))
      (pss_one (ps_ret (pe_tup (pa_cons (pv 2) (pa_cons (pv 0) pa_nil)))))))), ?_⟩
    refine ⟨_, rfl, _, rfl, .inl ⟨b, n, s, rfl, hB, u, rfl, u, .type (tnD d), isSeqD d, rfl, fun H' e => (hd.ext e).ty, by rw [kd_seq], fun H1 e1 => ⟨_, rfl, ?_⟩⟩⟩
    rw [h1]
    exact iteT (mkX_fin fun e he => hE _ e1 e he)
def PairX (K : PySem.W.Frag) (A : Ad) (v u : V) (H : Hp) (E : XK) : Prop := (∃ d, Thg K H v d ∧ ErrP A E H "one") ∨ ∃ b n s, v = .ref b ∧ BkAt K A H b n s ∧ ((∃ d, Thg K H u d ∧ ErrP A E H "other") ∨ ∃ c m t, u = .ref c ∧ BkAt K A H c m t ∧ n ≠ m ∧ ErrP A E H "other")
def spPairX (K : PySem.W.Frag) (A : Ad) : Sp := fun vs H Q E => ∃ v u, vs = [v, u] ∧ PairX K A v u H E
theorem ok_pairX {f : Addr} {fd : FuncData} (F : Fun K "check_pair" "check_pair" s_check_pair f fd) (T : Txt K mg A) (X_BadPart : XCls P w K mg base "BadPart" "part" A.BadPart) : FnOk P w K mg base (L2.CX P w) 3 f fd pm_check_pair (spPairX K A) := by
  refine F.okX sc_check_pair (fun vs H Q E h => ?_) (fun cdv A' outer sh H vs Q E hr h => ?_)
  · obtain ⟨_, _, rfl, _⟩ := h
    rfl
  · obtain ⟨v, u, rfl, h⟩ := h
    refine ⟨_, pss_cons (ps_if (pt_not (pt_val (pe_callB call_isi (by rfl) T.n_isinstance (by decide +kernel) (pa_cons (pv 0) (pa_cons (pe_gcls T.Book.gC) pa_nil))))) (pss_one (ps_raise rfl (takes_of rfl rfl rfl rfl) (pmk_X X_BadPart (hr.mono (by decide)) (pe_str) rfl))) (pss_nil))
      (pss_one (ps_if (PW.pt (pw_or (pt_not (pt_val (pe_callB call_isi (by rfl) T.n_isinstance (by decide +kernel) (pa_cons (pv 1) (pa_cons (pe_gcls T.Book.gC) pa_nil))))) (pw_or1 (pt_cmpR op_ne (pe_fld (pv 1) rfl) (pe_fld (pv 0) rfl) (nomark _))))) (pss_one (ps_raise rfl (takes_of rfl rfl rfl rfl) (pmk_X X_BadPart (hr.mono (by decide)) (pe_str) rfl))) (pss_nil))), ?_⟩
    rcases h with ⟨d, hd, hE⟩ | ⟨b, n, s, rfl, ⟨dx, ps, po, hb, _, _⟩, h⟩
    · refine ⟨_, rfl, _, .ref A.Book, .type (tnD d), .ref A.Book, false, rfl, .own _, hd.ty, T.Book.kitB (sub_ty_ref kd_find) rfl, _, rfl, ?_⟩
      exact iteT (mkX_fin fun e he => hE _ Ext.rfl' e he)
    · refine ⟨_, rfl, _, .ref A.Book, .ref A.Book, .ref A.Book, true, rfl, .own _, T.Book.tyOf hb, T.Book.me, _, rfl, ?_⟩
      rcases h with ⟨d, hd, hE⟩ | ⟨c, m, t, rfl, ⟨dy, pt, pp, hc, _, _⟩, hnm, hE⟩
      · refine iteF ⟨_, rfl, _, .ref A.Book, .type (tnD d), .ref A.Book, false, rfl, .own _, hd.ty, T.Book.kitB (sub_ty_ref kd_find) rfl, _, rfl, ?_⟩
        exact iteT (iteT (mkX_fin fun e he => hE _ Ext.rfl' e he))
      · refine iteF ⟨_, rfl, _, .ref A.Book, .ref A.Book, .ref A.Book, true, rfl, .own _, T.Book.tyOf hc, T.Book.me, _, rfl, ?_⟩
        refine iteF ⟨_, rfl, c, A.Book, dy, _, _, rfl, hc, T.Book.cl, T.b_places, rfl, _, rfl, b, A.Book, dx, _, _, rfl, hb, T.Book.cl, T.b_places, rfl, rfl, _, rfl, ?_⟩
        rw [decide_eq_false (fun z => hnm (by injection z with z; omega))]
        exact iteT (mkX_fin fun e he => hE _ Ext.rfl' e he)
def spPartWX (K : PySem.W.Frag) (A : Ad) : Sp := fun vs H Q E => ∃ v u, vs = [v, u] ∧ PairX K A v u H E
theorem ok_partWX {f : Addr} {fd : FuncData} (F : Fun K "parting_words" "parting_words" s_parting_words f fd) (T : Txt K mg A) (O_check_pair : Own P w K mg base (L2.CX P w) "check_pair" 3 pm_check_pair (spPairX K A)) (O_Book_held : OwnM P w K mg base CX0 A.Book "held" 1 pm_Book_held (spHeld K A))
    (O_Book_oldest_first : OwnM P w K mg base CX0 A.Book "oldest_first" 1 pm_Book_oldest_first (spOldest K A)) (O_overwriting_words : Own P w K mg base CX0 "overwriting_words" 3 pm_overwriting_words (spOver K A)) : FnOk P w K mg base (L2.CX P w) 5 f fd pm_parting_words (spPartWX K A) := by
  refine F.okX sc_parting_words (fun vs H Q E h => ?_) (fun cdv A' outer sh H vs Q E hr h => ?_)
  · obtain ⟨_, _, rfl, _⟩ := h
    rfl
  · obtain ⟨v, u, rfl, h⟩ := h
    refine ⟨_, pss_cons (ps_expr (pe_ownS O_check_pair (hr.mono (by decide)) (takes_of rfl rfl rfl rfl) (pa_cons (pv 0) (pa_cons (pv 1) pa_nil))))
      (pss_cons (ps_for (passes_of rfl) rfl (pi_range1 rfl T.n_range (pa_cons (pe_fld (pv 0) rfl) pa_nil)) (pg_name (i := 2) sc_parting_words.nd rfl (Or.inl rfl)) (pss_one (ps_if (pt_cmpR op_ne (pe_ix ix_tup (pe_ownM0 O_Book_held (pv 0) T.Book.cl (hr.mono (by decide)) pass0) (pv 2) (fun _ _ => rfl)) (pe_ix ix_tup (pe_ownM0 O_Book_held (pv 1) T.Book.cl (hr.mono (by decide)) pass0) (pv 2) (fun _ _ => rfl)) (nomark _)) (pss_one (ps_ret (pe_lst (pa_cons (pe_tup (pa_cons (pe_str) (pa_cons (pv 2) pa_nil))) pa_nil)))) (pss_nil))))
      (pss_cons (ps_set (i := 3) sc_parting_words.nd rfl (Or.inl rfl) (pe_listZip rfl (by rfl) T.n_list (by rfl) T.n_zip (pa_cons (pe_ownM0 O_Book_oldest_first (pv 0) T.Book.cl (hr.mono (by decide)) pass0) (pa_cons (pe_ownM0 O_Book_oldest_first (pv 1) T.Book.cl (hr.mono (by decide)) pass0) pa_nil))))
      (pss_cons (ps_for (passes_of rfl) rfl (pi_enSq rfl T.n_enumerate (pa_cons (pv 3) pa_nil)) (pg_tup rfl (pgs_cons (pg_name (i := 4) sc_parting_words.nd rfl (Or.inl rfl)) (pgs_cons (pg_tup rfl (pgs_cons (pg_name (i := 2) sc_parting_words.nd rfl (Or.inl rfl)) (pgs_cons (pg_name (i := 5) sc_parting_words.nd rfl (Or.inl rfl)) (pgs_nil)))) (pgs_nil)))) (pss_one (ps_if (pt_cmpR op_ne (pv 2) (pv 5) (nomark _)) (pss_one (ps_ret (pe_op op_cat (pe_own O_overwriting_words (hr.mono (by decide)) pass0 (pa_cons (pv 0) (pa_cons (pe_op op_add (pv 4) (pe_int)) pa_nil))) (pe_lst (pa_cons (pe_tup (pa_cons (pe_str) (pa_cons (pv 2) pa_nil))) pa_nil))))) (pss_nil))))
      (pss_one (ps_ret (pe_non)))))), ?_⟩
    exact ⟨_, rfl, _, rfl, v, u, rfl, h⟩
def spIsPartX (K : PySem.W.Frag) (A : Ad) : Sp := fun vs H Q E => ∃ v u, vs = [v, u, .non] ∧ PairX K A v u H E
theorem ok_isPartX {f : Addr} {fd : FuncData} (F : Fun K "is_parting" "is_parting" s_is_parting f fd) (T : Txt K mg A) (O_check_pair : Own P w K mg base (L2.CX P w) "check_pair" 3 pm_check_pair (spPairX K A)) (O_read_head : Own P w K mg base CX0 "read_head" 5 pm_read_head (spReadHead K A))
    (O_Book_used : OwnM P w K mg base (L2.CX P w) A.Book "used" 7 pm_Book_used (spUsed K A)) : FnOk P w K mg base (L2.CX P w) 8 f fd pm_is_parting (spIsPartX K A) := by
  refine F.okX sc_is_parting (fun vs H Q E h => ?_) (fun cdv A' outer sh H vs Q E hr h => ?_)
  · obtain ⟨_, _, rfl, _⟩ := h
    rfl
  · obtain ⟨v, u, rfl, h⟩ := h
    refine ⟨_, pss_cons (ps_expr (pe_ownS O_check_pair (hr.mono (by decide)) (takes_of rfl rfl rfl rfl) (pa_cons (pv 0) (pa_cons (pv 1) pa_nil))))
      (pss_cons (ps_if (PW.pt (pw_or (pt_not (pt_val (pe_callB call_isi (by rfl) T.n_isinstance (by decide +kernel) (pa_cons (pv 2) (pa_cons (pe_bltn (v := .ty "list") (by rfl) T.n_list (by decide +kernel) rfl) pa_nil))))) (pw_or1 (pt_cmpR op_eq (pe_callB call_len_seq (by rfl) T.n_len (by decide +kernel) (pa_cons (pv 2) pa_nil)) (pe_int) (nomark _))))) (pss_one (ps_ret (pe_bl))) (pss_nil))
      (pss_cons (ps_for (passes_of rfl) rfl (pi_sq (pe_slice sl_list (pv 2) po_none (po_some (pe_un un_neg (pe_int))))) (pg_name (i := 3) sc_is_parting.nd rfl (Or.inl rfl)) (pss_cons (ps_set (i := 4) sc_is_parting.nd rfl (Or.inl rfl) (pe_own O_read_head (hr.mono (by decide)) pass0 (pa_cons (pv 0) (pa_cons (pv 3) pa_nil))))
      (pss_cons (ps_if (PW.pt (pw_or (pt_cmpR op_isN (pv 4) (pe_non) (nomark _)) (pw_or1 (pt_cmpR op_ne (pv 4) (pe_own O_read_head (hr.mono (by decide)) pass0 (pa_cons (pv 1) (pa_cons (pv 3) pa_nil))) (nomark _))))) (pss_one (ps_ret (pe_bl))) (pss_nil))
      (pss_cons (ps_set (i := 0) sc_is_parting.nd rfl (Or.inl rfl) (pe_ownM O_Book_used (pv 0) T.Book.cl (hr.mono (by decide)) passL (pa_cons (pv 4) pa_nil)))
      (pss_one (ps_set (i := 1) sc_is_parting.nd rfl (Or.inl rfl) (pe_ownM O_Book_used (pv 1) T.Book.cl (hr.mono (by decide)) passL (pa_cons (pv 4) pa_nil))))))))
      (pss_one (ps_ret (pe_cmpR op_ne (pe_own O_read_head (hr.mono (by decide)) pass0 (pa_cons (pv 0) (pa_cons (pe_ix ix_list (pv 2) (pe_un un_neg (pe_int)) (fun _ _ => rfl)) pa_nil))) (pe_own O_read_head (hr.mono (by decide)) pass0 (pa_cons (pv 1) (pa_cons (pe_ix ix_list (pv 2) (pe_un un_neg (pe_int)) (fun _ _ => rfl)) pa_nil))) (nomark _)))))), ?_⟩
    exact ⟨_, rfl, _, rfl, v, u, rfl, h⟩
end
end K02

set_option Elab.async false
set_option maxRecDepth 100000
set_option maxHeartbeats 4000000
namespace K02
open PySem PySem.Spec PyProof.Rows L2
theorem fnor {P : Program} {w : World} {K : PySem.W.Frag} {mg : Str → Option Value} {base : Heap} {CX : CXT} {k : Nat} {f : Addr} {fd : FuncData} {ps : List Str} {sp sp' : Sp} (F : FnOk P w K mg base CX k f fd ps sp) (G : FnOk P w K mg base CX k f fd ps sp') : FnOk P w K mg base CX k f fd ps (fun vs H Q E => sp vs H Q E ∨ sp' vs H Q E) :=
  ⟨fun vs H Q E h => h.elim (F.len vs H Q E) (G.len vs H Q E), fun A outer s H args us vs Q E hr he hb hv hs => hs.elim (F.run A outer s H args us vs Q E hr he hb hv) (G.run A outer s H args us vs Q E hr he hb hv)⟩
/-- how a call comes out -/
inductive Oc
  | ok
  | part (s : Str)
  | head (v : V)
  | name (v : V)
  | word (v : V)
  | words (v : V)
def OcE (A : Ad) (E : XK) (H : Hp) : Oc → Prop
  | .ok => True
  | .part s => ErrP A E H s
  | .head v => ErrH A E H v
  | .name v => ErrN A E H v
  | .word v => ErrWd A E H v
  | .words v => ErrWs A E H v
theorem names_no {us : List Str} (h : ∀ u ∈ us, nameS u = true) : badAt (us.map PyData.str) = none := by
  unfold badAt
  rw [List.findIdx?_eq_none_iff]
  intro x hx
  obtain ⟨u, hu, rfl⟩ := List.mem_map.mp hx
  show (!nameS u) = false
  rw [h u hu]; rfl
section
variable {P : Program} {w : World} {K : PySem.W.Frag} {mg : Str → Option Value} {base : Heap} {A : Ad}
def spWriteA (K : PySem.W.Frag) (A : Ad) : Sp := fun vs H Q E => spWrite K A vs H Q E ∨ spWriteX K A vs H Q E ∨ spWriteY K A vs H Q E
theorem ok_writeA {f : Addr} {fd : FuncData} (F : Fun K "write_heads" "write_heads" s_write_heads f fd) (T : Txt K mg A) (O_check_book : Own P w K mg base (L2.CX P w) "check_book" 3 pm_check_book (spCheckBook K A)) (O_check_heads : Own P w K mg base (L2.CX P w) "check_heads" 3 pm_check_heads (spHeads K A)) (O_check_book_1 : Own P w K mg base (L2.CX P w) "check_book" 3 pm_check_book (spCheckBookX K A)) (O_check_heads_1 : Own P w K mg base (L2.CX P w) "check_heads" 3 pm_check_heads (spHeadsX K A))
    (O_Book_word_for : OwnM P w K mg base (L2.CX P w) A.Book "word_for" 4 pm_Book_word_for (spWordFor K A)) (O_Book_used : OwnM P w K mg base (L2.CX P w) A.Book "used" 7 pm_Book_used (spUsed K A)) : FnOk P w K mg base (L2.CX P w) 8 f fd pm_write_heads (spWriteA K A) := by
  exact fnor (ok_write F T O_check_book O_check_heads O_Book_word_for O_Book_used) (fnor (ok_writeX F T O_check_book_1 O_check_heads O_Book_word_for O_Book_used) (ok_writeY F T O_check_book O_check_heads_1 O_Book_word_for O_Book_used))
def spReadA (K : PySem.W.Frag) (A : Ad) : Sp := fun vs H Q E => spRead K A vs H Q E ∨ spReadX K A vs H Q E ∨ spReadY K A vs H Q E
theorem ok_readA {f : Addr} {fd : FuncData} (F : Fun K "read_words" "read_words" s_read_words f fd) (T : Txt K mg A) (O_check_book : Own P w K mg base (L2.CX P w) "check_book" 3 pm_check_book (spCheckBook K A)) (O_check_book_1 : Own P w K mg base (L2.CX P w) "check_book" 3 pm_check_book (spCheckBookX K A)) (O_is_list : Own P w K mg base CX0 "is_list" 1 pm_is_list (spIsList K))
    (O_read_head : Own P w K mg base CX0 "read_head" 5 pm_read_head (spReadHead K A)) (O_Book_used : OwnM P w K mg base (L2.CX P w) A.Book "used" 7 pm_Book_used (spUsed K A)) (X_BadWords : XCls P w K mg base "BadWords" "index" A.BadWords) : FnOk P w K mg base (L2.CX P w) 8 f fd pm_read_words (spReadA K A) := by
  exact fnor (ok_read F T O_check_book O_is_list O_read_head O_Book_used X_BadWords) (fnor (ok_readX F T O_check_book_1 O_is_list O_read_head O_Book_used X_BadWords) (ok_readY F T O_check_book O_is_list O_read_head O_Book_used X_BadWords))
def spPartWA (K : PySem.W.Frag) (A : Ad) : Sp := fun vs H Q E => spPartW K A vs H Q E ∨ spPartWX K A vs H Q E
theorem ok_partWA {f : Addr} {fd : FuncData} (F : Fun K "parting_words" "parting_words" s_parting_words f fd) (T : Txt K mg A) (O_check_pair : Own P w K mg base (L2.CX P w) "check_pair" 3 pm_check_pair (spPair K A)) (O_check_pair_1 : Own P w K mg base (L2.CX P w) "check_pair" 3 pm_check_pair (spPairX K A)) (O_Book_held : OwnM P w K mg base CX0 A.Book "held" 1 pm_Book_held (spHeld K A))
    (O_Book_oldest_first : OwnM P w K mg base CX0 A.Book "oldest_first" 1 pm_Book_oldest_first (spOldest K A)) (O_overwriting_words : Own P w K mg base CX0 "overwriting_words" 3 pm_overwriting_words (spOver K A)) : FnOk P w K mg base (L2.CX P w) 5 f fd pm_parting_words (spPartWA K A) := by
  exact fnor (ok_partW F T O_check_pair O_Book_held O_Book_oldest_first O_overwriting_words) (ok_partWX F T O_check_pair_1 O_Book_held O_Book_oldest_first O_overwriting_words)
def spIsPartA (K : PySem.W.Frag) (A : Ad) : Sp := fun vs H Q E => spIsPart K A vs H Q E ∨ spIsPartX K A vs H Q E
theorem ok_isPartA {f : Addr} {fd : FuncData} (F : Fun K "is_parting" "is_parting" s_is_parting f fd) (T : Txt K mg A) (O_check_pair : Own P w K mg base (L2.CX P w) "check_pair" 3 pm_check_pair (spPair K A)) (O_check_pair_1 : Own P w K mg base (L2.CX P w) "check_pair" 3 pm_check_pair (spPairX K A)) (O_read_head : Own P w K mg base CX0 "read_head" 5 pm_read_head (spReadHead K A))
    (O_Book_used : OwnM P w K mg base (L2.CX P w) A.Book "used" 7 pm_Book_used (spUsed K A)) : FnOk P w K mg base (L2.CX P w) 8 f fd pm_is_parting (spIsPartA K A) := by
  exact fnor (ok_isPart F T O_check_pair O_read_head O_Book_used) (ok_isPartX F T O_check_pair_1 O_read_head O_Book_used)
def spBookA (K : PySem.W.Frag) (A : Ad) : Sp := fun vs H Q E => spBookInit K A vs H Q E ∨ spBookX K A vs H Q E
theorem ok_bookA {f : Addr} {fd : FuncData} (F : FunD K "__init__" "Book.__init__" (defArgs s_Book_init) (defBody s_Book_init) (defScope s_Book_init) [.ref A.T0] [] f fd) (T : Txt K mg A)
    (O_check_places : Own P w K mg base (L2.CX P w) "check_places" 4 pm_check_places (spPlaces K A)) (O_check_heads : Own P w K mg base (L2.CX P w) "check_heads" 3 pm_check_heads (spHeads K A)) (O_check_heads_1 : Own P w K mg base (L2.CX P w) "check_heads" 3 pm_check_heads (spHeadsX K A)) (O_slots_behind : Own P w K mg base CX0 "slots_behind" 2 pm_slots_behind (spBehind K)) :
    FnOk P w K mg base (L2.CX P w) 5 f fd pm_Book_init (spBookA K A) := by
  exact fnor (ok_bookInit F T O_check_places O_check_heads O_slots_behind) (ok_bookX F T O_check_places O_check_heads_1 O_slots_behind)
/-- the heads that are wrong -/
def HdsX (K : PySem.W.Frag) (H : Hp) (y : V) (v : V) : Prop := (∃ d, Thg K H y d ∧ isSeqD d = false ∧ v = .non) ∨ ∃ d ds i, Dp K H y d ∧ itemsD d = some ds ∧ ds.length ≤ 1000 ∧ (∀ x ∈ ds, SmD x) ∧ badAt ds = some i ∧ v = .int (i : Nat)
def Asks (K : PySem.W.Frag) (A : Ad) (H : Hp) (door : Int) (x y : V) (o : Oc) : Prop :=
  (door = 0 ∧ ((∃ d, Dp K H x d ∧ betD d 0 4 = false ∧ y = .non ∧ o = .part "places") ∨ ∃ (n : Nat) (v : V), x = .int (n : Int) ∧ n ≤ 4 ∧ HdsX K H y v ∧ o = .head v)) ∨
  (((door = 1 ∨ door = 2) ∧ ∃ b n s d, x = .ref b ∧ BkAt K A H b n s ∧ Good n s ∧ Dp K H y d ∧ SmD d ∧ nameD d = false ∧ o = .name y) ∨
  ((door = 3 ∧ ∃ b n s d, x = .ref b ∧ BkAt K A H b n s ∧ Good n s ∧ Dp K H y d ∧ SmD (sndD d) ∧ ((readD d n s = none ∧ o = .word y) ∨ ((readD d n s).isSome = true ∧ o = .ok))) ∨
  ((door = 6 ∧ ((∃ d, Thg K H x d ∧ o = .part "book") ∨ ∃ b n s v, x = .ref b ∧ BkAt K A H b n s ∧ Good n s ∧ HdsX K H y v ∧ o = .head v)) ∨
  ((door = 7 ∧ ((∃ d, Thg K H x d ∧ o = .part "book") ∨ ∃ b n s, x = .ref b ∧ BkAt K A H b n s ∧ Good n s ∧ ((∃ d, Thg K H y d ∧ isSeqD d = false ∧ o = .words .non) ∨ ∃ d ds, Dp K H y d ∧ itemsD d = some ds ∧ ds.length ≤ 1000 ∧ (∀ x ∈ ds, SmD (sndD x)) ∧ (readI n s ds).2 = false ∧ o = .words (.int ((readI n s ds).1.length : Nat))))) ∨
  ((door = 8 ∨ door = 9) ∧ ((∃ d, Thg K H x d ∧ o = .part "one") ∨ ∃ b n s, x = .ref b ∧ BkAt K A H b n s ∧ Good n s ∧ ((∃ d, Thg K H y d ∧ o = .part "other") ∨ (∃ c m t, y = .ref c ∧ BkAt K A H c m t ∧ n ≠ m ∧ o = .part "other") ∨ (y = x ∧ o = .ok))))))))
def spCalled (K : PySem.W.Frag) (A : Ad) : Sp := fun vs H Q E => ∃ (door : Int) (x y : V) (o : Oc), vs = [.int door, x, y] ∧ Asks K A H door x y o ∧ (o = .ok → ∀ H', Ext H H' → Q .non H') ∧ OcE A E H o
theorem ok_called {f : Addr} {fd : FuncData} (F : Fun K "_law_called" "_law_called" s__law_called f fd) (T : Txt K mg A) (O_Book : OwnC P w K mg base (L2.CX P w) "Book" A.Book 5 pm_Book_init (spBookA K A)) (O_Book_used : OwnM P w K mg base (L2.CX P w) A.Book "used" 7 pm_Book_used (spUsed K A)) (O_Book_word_for : OwnM P w K mg base (L2.CX P w) A.Book "word_for" 4 pm_Book_word_for (spWordFor K A)) (O_Book_head_for : OwnM P w K mg base (L2.CX P w) A.Book "head_for" 6 pm_Book_head_for (spHeadFor K A))
    (O_write_heads : Own P w K mg base (L2.CX P w) "write_heads" 8 pm_write_heads (spWriteA K A)) (O_read_words : Own P w K mg base (L2.CX P w) "read_words" 8 pm_read_words (spReadA K A)) (O_parting_words : Own P w K mg base (L2.CX P w) "parting_words" 5 pm_parting_words (spPartWA K A)) (O_is_parting : Own P w K mg base (L2.CX P w) "is_parting" 8 pm_is_parting (spIsPartA K A)) : FnOk P w K mg base (L2.CX P w) 9 f fd pm__law_called (spCalled K A) := by
  refine F.okX sc__law_called (fun vs H Q E h => ?_) (fun cdv A' outer sh H vs Q E hr h => ?_)
  · obtain ⟨_, _, _, _, rfl, _⟩ := h
    rfl
  · obtain ⟨door, x, y, o, rfl, hA, q, qe⟩ := h
    refine ⟨_, pss_one (ps_if (pt_cmpR op_eq (pv 0) (pe_int) (nomark _)) (pss_one (ps_expr (pe_newS O_Book (hr.mono (by decide)) (takes_of rfl rfl rfl rfl) (pa_cons (pv 1) (pa_cons (pv 2) pa_nil))))) (pss_one (ps_if (pt_cmpR op_eq (pv 0) (pe_int) (nomark _)) (pss_one (ps_expr (pe_ownMS O_Book_used (pv 1) T.Book.cl (hr.mono (by decide)) (takes_of rfl rfl rfl rfl) (pa_cons (pv 2) pa_nil)))) (pss_one (ps_if (pt_cmpR op_eq (pv 0) (pe_int) (nomark _)) (pss_one (ps_expr (pe_ownMS O_Book_word_for (pv 1) T.Book.cl (hr.mono (by decide)) (takes_of rfl rfl rfl rfl) (pa_cons (pv 2) pa_nil)))) (pss_one (ps_if (pt_cmpR op_eq (pv 0) (pe_int) (nomark _)) (pss_one (ps_expr (pe_ownMS O_Book_head_for (pv 1) T.Book.cl (hr.mono (by decide)) (takes_of rfl rfl rfl rfl) (pa_cons (pv 2) pa_nil)))) (pss_one (ps_if (pt_cmpR op_eq (pv 0) (pe_int) (nomark _)) (pss_one (ps_expr (pe_ownS O_write_heads (hr.mono (by decide)) (takes_of rfl rfl rfl rfl) (pa_cons (pv 1) (pa_cons (pv 2) pa_nil))))) (pss_one (ps_if (pt_cmpR op_eq (pv 0) (pe_int) (nomark _)) (pss_one (ps_expr (pe_ownS O_read_words (hr.mono (by decide)) (takes_of rfl rfl rfl rfl) (pa_cons (pv 1) (pa_cons (pv 2) pa_nil))))) (pss_one (ps_if (pt_cmpR op_eq (pv 0) (pe_int) (nomark _)) (pss_one (ps_expr (pe_ownS O_parting_words (hr.mono (by decide)) (takes_of rfl rfl rfl rfl) (pa_cons (pv 1) (pa_cons (pv 2) pa_nil))))) (pss_one (ps_expr (pe_ownS O_is_parting (hr.mono (by decide)) (takes_of rfl rfl rfl rfl) (pa_cons (pv 1) (pa_cons (pv 2) (pa_cons (pe_non) pa_nil))))))))))))))))))), ?_⟩
    have sq : ∀ {d : PyData} {ds : List PyData}, itemsD d = some ds → isSeqD d = false → False := fun {d ds} h1 h2 => by cases d <;> first | (cases h1; done) | cases h2
    rcases hA with ⟨rfl, h⟩ | ⟨hd, b, n, s, d, rfl, hB, g, hy, hsm, hno, rfl⟩ | ⟨rfl, b, n, s, d, rfl, hB, g, hy, hsm, h⟩ | ⟨rfl, h⟩ | ⟨rfl, h⟩ | ⟨hd, h⟩
    · refine ⟨_, rfl, rfl, _, rfl, iteT ⟨x, rfl, y, rfl, fun p dx hp hdx hne => ?_⟩⟩
      have e1 : Ext H (upd (upd H dx (.own p)) p (.ins A.Book dx [])) := (Ext.upd hdx).trans (Ext.upd (by rw [upd_ne hne.symm]; exact hp))
      rcases h with ⟨d, hd, hb, rfl, rfl⟩ | ⟨n, v, rfl, hn, h, rfl⟩
      · exact .inl ⟨p, dx, x, .non, d, .none, rfl, upd_same, dp_ext e1 _ _ hd, .non, (fun ds z => by cases z), fun _ H' e => qe H' (e1.trans e), fun z => absurd (hb.symm.trans z) (by decide), fun z => absurd (hb.symm.trans z) (by decide), fun n us _ _ z => (by cases z)⟩
      · have hb : betD (.int (n : Int)) 0 4 = true := by simp [betD]; omega
        rcases h with ⟨d, hd, h1, rfl⟩ | ⟨d, ds, i, hd, hit, hlen, hsm, hbad, rfl⟩
        · exact .inr ⟨p, dx, n, y, d, rfl, hn, hd.ext e1, h1, fun H' e => qe H' (e1.trans e)⟩
        · refine .inl ⟨p, dx, _, y, .int (n : Int), d, rfl, upd_same, .int _, dp_ext e1 _ _ hd, fun ds' z => ?_, fun z => absurd (hb.symm.trans z) (by decide), fun _ z => (sq hit z).elim, fun _ ds' i' z1 z2 => ?_, fun n' us _ _ z1 z2 => ?_⟩
          · rw [hit] at z
            cases z
            exact hsm
          · rw [hit] at z1
            cases z1
            rw [hbad] at z2
            cases z2
            exact fun H' e => qe H' (e1.trans e)
          · rw [hit] at z1
            cases z1
            rw [names_no z2] at hbad
            cases hbad
    · obtain ⟨dx, ps, po, hb, _, _⟩ := id hB
      rcases hd with rfl | rfl
      · refine ⟨_, rfl, rfl, _, rfl, iteF ⟨_, rfl, rfl, _, rfl, iteT ⟨_, rfl, b, dx, _, rfl, hb, rfl, _, rfl, b, n, s, y, d, rfl, hB, g, hy, hsm, fun _ => qe, fun h e hh => ?_⟩⟩⟩
        rw [e] at hno
        exact absurd (hno.symm.trans hh) (by decide)
      · refine ⟨_, rfl, rfl, _, rfl, iteF ⟨_, rfl, rfl, _, rfl, iteF ⟨_, rfl, rfl, _, rfl, iteT ⟨_, rfl, b, dx, _, rfl, hb, rfl, _, rfl, b, n, s, y, d, rfl, hB, hy, hsm, fun _ => qe, fun h e hh => ?_⟩⟩⟩⟩
        rw [e] at hno
        exact absurd (hno.symm.trans hh) (by decide)
    · obtain ⟨dx, ps, po, hb, _, _⟩ := id hB
      refine ⟨_, rfl, rfl, _, rfl, iteF ⟨_, rfl, rfl, _, rfl, iteF ⟨_, rfl, rfl, _, rfl, iteF ⟨_, rfl, rfl, _, rfl, iteT ?_⟩⟩⟩⟩
      refine ⟨_, rfl, b, dx, _, rfl, hb, rfl, _, rfl, b, n, s, y, d, rfl, hB, g, hy, hsm, ?_⟩
      rcases h with ⟨h1, rfl⟩ | ⟨h1, rfl⟩
      · exact ⟨fun _ => qe, fun h e => (by rw [h1] at e; cases e)⟩
      · exact ⟨fun e => (by rw [e] at h1; cases h1), fun h e H' x => q rfl H' x⟩
    · refine ⟨_, rfl, rfl, _, rfl, iteF ⟨_, rfl, rfl, _, rfl, iteF ⟨_, rfl, rfl, _, rfl, iteF ⟨_, rfl, rfl, _, rfl, iteF ⟨_, rfl, rfl, _, rfl, iteT ?_⟩⟩⟩⟩⟩
      refine ⟨_, rfl, _, rfl, ?_⟩
      rcases h with ⟨d, hd, rfl⟩ | ⟨b, n, s, v, rfl, hB, g, h, rfl⟩
      · exact .inr (.inl ⟨x, y, d, rfl, hd, qe⟩)
      · rcases h with ⟨d, hd, h1, rfl⟩ | ⟨d, ds, i, hd, hit, hlen, hsm, hbad, rfl⟩
        · exact .inr (.inr ⟨b, n, s, y, d, rfl, hB, hd, h1, qe⟩)
        · refine .inl ⟨_, y, d, rfl, hd, fun ds' z => ?_, .inr ⟨b, n, s, rfl, hB, g, fun z => (sq hit z).elim, fun ds' i' z1 z2 => ?_, fun hs z1 z2 => ?_⟩⟩
          · rw [hit] at z
            cases z
            exact ⟨hlen, hsm⟩
          · rw [hit] at z1
            cases z1
            rw [hbad] at z2
            cases z2
            exact qe
          · rw [hit] at z1
            cases z1
            rw [names_no z2] at hbad
            cases hbad
    · refine ⟨_, rfl, rfl, _, rfl, iteF ⟨_, rfl, rfl, _, rfl, iteF ⟨_, rfl, rfl, _, rfl, iteF ⟨_, rfl, rfl, _, rfl, iteF ⟨_, rfl, rfl, _, rfl, iteF ⟨_, rfl, rfl, _, rfl, iteT ?_⟩⟩⟩⟩⟩⟩
      refine ⟨_, rfl, _, rfl, ?_⟩
      rcases h with ⟨d, hd, rfl⟩ | ⟨b, n, s, rfl, hB, g, h⟩
      · exact .inr (.inl ⟨x, y, d, rfl, hd, qe⟩)
      · rcases h with ⟨d, hd, h1, rfl⟩ | ⟨d, ds, hd, hit, hlen, hsm, hbad, rfl⟩
        · exact .inr (.inr ⟨b, n, s, y, d, rfl, hB, hd, h1, qe⟩)
        · refine .inl ⟨_, y, d, rfl, hd, fun ds' z => ?_, .inr ⟨b, n, s, rfl, hB, g, fun z => (sq hit z).elim, fun ds' z1 z2 => ?_, fun ds' z1 z2 => ?_⟩⟩
          · rw [hit] at z
            cases z
            exact ⟨hlen, hsm⟩
          · rw [hit] at z1
            cases z1
            exact qe
          · rw [hit] at z1
            cases z1
            exact absurd (hbad.symm.trans z2) (by decide)
    · rcases hd with rfl | rfl
      · refine ⟨_, rfl, rfl, _, rfl, iteF ⟨_, rfl, rfl, _, rfl, iteF ⟨_, rfl, rfl, _, rfl, iteF ⟨_, rfl, rfl, _, rfl, iteF ⟨_, rfl, rfl, _, rfl, iteF ⟨_, rfl, rfl, _, rfl, iteF ⟨_, rfl, rfl, _, rfl, iteT ?_⟩⟩⟩⟩⟩⟩⟩
        refine ⟨_, rfl, _, rfl, ?_⟩
        rcases h with ⟨d, hd, rfl⟩ | ⟨b, n, s, rfl, hB, g, h⟩
        · exact .inr ⟨x, y, rfl, .inl ⟨d, hd, qe⟩⟩
        · rcases h with ⟨d, hd, rfl⟩ | ⟨c, m, t, rfl, hC, hnm, rfl⟩ | ⟨rfl, rfl⟩
          · exact .inr ⟨_, y, rfl, .inr ⟨b, n, s, rfl, hB, .inl ⟨d, hd, qe⟩⟩⟩
          · exact .inr ⟨_, _, rfl, .inr ⟨b, n, s, rfl, hB, .inr ⟨c, m, t, rfl, hC, hnm, qe⟩⟩⟩
          · exact .inl ⟨b, b, n, s, s, rfl, hB, hB, g, g, TwoW.of fun v H' e _ => q rfl H' e⟩
      · refine ⟨_, rfl, rfl, _, rfl, iteF ⟨_, rfl, rfl, _, rfl, iteF ⟨_, rfl, rfl, _, rfl, iteF ⟨_, rfl, rfl, _, rfl, iteF ⟨_, rfl, rfl, _, rfl, iteF ⟨_, rfl, rfl, _, rfl, iteF ⟨_, rfl, rfl, _, rfl, iteF ?_⟩⟩⟩⟩⟩⟩⟩
        refine ⟨_, rfl, _, rfl, ?_⟩
        rcases h with ⟨d, hd, rfl⟩ | ⟨b, n, s, rfl, hB, g, h⟩
        · exact .inr ⟨x, y, rfl, .inl ⟨d, hd, qe⟩⟩
        · rcases h with ⟨d, hd, rfl⟩ | ⟨c, m, t, rfl, hC, hnm, rfl⟩ | ⟨rfl, rfl⟩
          · exact .inr ⟨_, y, rfl, .inr ⟨b, n, s, rfl, hB, .inl ⟨d, hd, qe⟩⟩⟩
          · exact .inr ⟨_, _, rfl, .inr ⟨b, n, s, rfl, hB, .inr ⟨c, m, t, rfl, hC, hnm, qe⟩⟩⟩
          · exact .inl ⟨b, b, n, s, s, .non, .none, rfl, hB, hB, g, g, .non, fun ds z => (by cases z), fun H' e => q rfl H' e⟩
end
end K02

set_option Elab.async false
set_option maxRecDepth 100000
set_option maxHeartbeats 4000000
namespace K02
open PySem PySem.Spec PyProof.Rows L2
def rRepr (K : PySem.W.Frag) : List V → Hp → VK → Prop := fun xs H Q => ∃ x d, xs = [x] ∧ Dp K H x d ∧ d.canLay0 = true ∧ d.depth ≤ 64 ∧ d.showable = true ∧ d.shown.length ≤ sizeLine ∧ Q (.str d.shown) H
theorem call_reprK {X : Cx} {K : PySem.W.Frag} (hK : X.K = K) (hg : X.A.guards = some []) (hu : X.A.units + 65 < cLine) : CallR X (.builtin "repr") (rRepr K) := by
  subst hK
  exact call_repr hg hu
def tsL (C : Addr) (wd f : Str) : SuT := fun a cls d => tRet (tLst (tCons (tC (.str wd)) (tCons (tXf a cls d C f (tVar 3)) tNil)))
def tsQ (K : PySem.W.Frag) (C : Addr) (wd f : Str) : SuT := fun a cls d => tRet (tLst (tCons (tC (.str wd)) (tCons (tCB (rRepr K) (tCons (tXf a cls d C f (tVar 3)) tNil)) tNil)))
def lR (K : PySem.W.Frag) (A : Ad) : List (Value × Nat × SuT) := [(.ref A.BadPart, 3, tsL A.BadPart "part" "part"), (.ref A.BadHead, 3, tsL A.BadHead "head" "index"), (.ref A.BadName, 3, tsQ K A.BadName "name" "name"), (.ref A.BadWord, 3, tsQ K A.BadWord "word" "word"), (.ref A.BadWords, 3, tsL A.BadWords "words" "index")]
def tbR (K : PySem.W.Frag) (A : Ad) (W : WX) : TS := tDrop (tCallS (spCalled K A) (WE W) (tCons (tVar 0) (tCons (tVar 1) (tCons (tVar 2) tNil))))
/-- repr can tell it -/
def Shw (d : PyData) : Prop := d.canLay0 = true ∧ d.depth ≤ 64 ∧ d.showable = true ∧ d.shown.length ≤ sizeLine
/-- how a refusal is told -/
def OcR (K : PySem.W.Frag) (H : Hp) (Q : VK) : Oc → Prop
  | .ok => ∀ H', Ext H H' → Q .non H'
  | .part s => ∀ t H', Ext H H' → H' t = some (.lst [.str "part", .str s]) → Q (.ref t) H'
  | .head v => ∀ t H', Ext H H' → H' t = some (.lst [.str "head", v]) → Q (.ref t) H'
  | .name v => ∃ d, Dp K H v d ∧ Shw d ∧ ∀ t H', Ext H H' → H' t = some (.lst [.str "name", .str d.shown]) → Q (.ref t) H'
  | .word v => ∃ d, Dp K H v d ∧ Shw d ∧ ∀ t H', Ext H H' → H' t = some (.lst [.str "word", .str d.shown]) → Q (.ref t) H'
  | .words v => ∀ t H', Ext H H' → H' t = some (.lst [.str "words", v]) → Q (.ref t) H'
section
variable {P : Program} {w : World} {K : PySem.W.Frag} {mg : Str → Option Value} {base : Heap} {A : Ad}
theorem as_oc (T : Txt K mg A) {Wo : WX} {D : Ends} {a b c x : Option V} {H : Hp} {oc : Oc} {Q : VK} (hD : D.rt = Q) (h : OcR K H Q oc) : OcE A (WE (wManyA K Wo D (lR K A)) [a, b, c, x]) H oc := by
  subst hD
  cases oc with
  | ok => trivial
  | part s => exact fun H' e1 e he => ⟨true, T.x_pp, fun _ q hq2 => ⟨_, rfl, rfl, rfl, e, _, .str s, rfl, upd_same, rfl, by show 2 ≤ sizeLine; decide, fun t ht => h t _ ((e1.trans (Ext.upd he)).trans (Ext.upd ht)) upd_same⟩, (fun z => nomatch z)⟩
  | head v => exact fun H' e1 e he => ⟨false, T.x_hp, (fun z => nomatch z), fun _ => ⟨true, T.x_hh, fun _ q hq2 => ⟨_, rfl, rfl, rfl, e, _, v, rfl, upd_same, rfl, by show 2 ≤ sizeLine; decide, fun t ht => h t _ ((e1.trans (Ext.upd he)).trans (Ext.upd ht)) upd_same⟩, (fun z => nomatch z)⟩⟩
  | name v =>
    obtain ⟨d, hd, ⟨h1, h2, h3, h4⟩, h⟩ := h
    exact fun H' e1 e he => ⟨false, T.x_np, (fun z => nomatch z), fun _ => ⟨false, T.x_nh, (fun z => nomatch z), fun _ => ⟨true, T.x_nn, fun _ q hq2 => ⟨_, rfl, rfl, rfl, e, _, v, rfl, upd_same, rfl, v, d, rfl, dp_ext (e1.trans (Ext.upd he)) _ _ hd, h1, h2, h3, h4, by show 2 ≤ sizeLine; decide, fun t ht => h t _ ((e1.trans (Ext.upd he)).trans (Ext.upd ht)) upd_same⟩, (fun z => nomatch z)⟩⟩⟩
  | word v =>
    obtain ⟨d, hd, ⟨h1, h2, h3, h4⟩, h⟩ := h
    exact fun H' e1 e he => ⟨false, T.x_wp, (fun z => nomatch z), fun _ => ⟨false, T.x_wh, (fun z => nomatch z), fun _ => ⟨false, T.x_wn, (fun z => nomatch z), fun _ => ⟨true, T.x_ww, fun _ q hq2 => ⟨_, rfl, rfl, rfl, e, _, v, rfl, upd_same, rfl, v, d, rfl, dp_ext (e1.trans (Ext.upd he)) _ _ hd, h1, h2, h3, h4, by show 2 ≤ sizeLine; decide, fun t ht => h t _ ((e1.trans (Ext.upd he)).trans (Ext.upd ht)) upd_same⟩, (fun z => nomatch z)⟩⟩⟩⟩
  | words v => exact fun H' e1 e he => ⟨false, T.x_sp, (fun z => nomatch z), fun _ => ⟨false, T.x_sh, (fun z => nomatch z), fun _ => ⟨false, T.x_sn, (fun z => nomatch z), fun _ => ⟨false, T.x_sw, (fun z => nomatch z), fun _ => ⟨true, T.x_ss, fun _ q hq2 => ⟨_, rfl, rfl, rfl, e, _, v, rfl, upd_same, rfl, by show 2 ≤ sizeLine; decide, fun t ht => h t _ ((e1.trans (Ext.upd he)).trans (Ext.upd ht)) upd_same⟩, (fun z => nomatch z)⟩⟩⟩⟩⟩
def spRefd (K : PySem.W.Frag) (A : Ad) : Sp := fun vs H Q _ => ∃ (door : Int) (x y : V) (o : Oc), vs = [.int door, x, y] ∧ Asks K A H door x y o ∧ OcR K H Q o
theorem ok_refd {f : Addr} {fd : FuncData} (F : Fun K "_law_refused" "_law_refused" s__law_refused f fd) (T : Txt K mg A) (O__law_called : Own P w K mg base (L2.CX P w) "_law_called" 9 pm__law_called (spCalled K A)) : FnClr P w K mg base CX0 10 f fd pm__law_refused (spRefd K A) := by
  refine F.okClr sc__law_refused (fun vs H Q E h => ?_) (fun cdv A' outer sh H vs Q E hg hr h => ?_)
  · obtain ⟨_, _, _, _, rfl, _⟩ := h
    rfl
  · obtain ⟨door, x, y, o, rfl, hA, h⟩ := h
    have hu65 : (A'.deeper (envOfC "_law_refused" (defScope s__law_refused) sh.heap.objs.size f cdv)).units + 65 < cLine := by
      have := hr.un
      omega
    refine ⟨_, pss_cons (ps_try_manyA (tb := tbR K A) (l := [(.ref A.BadPart, 3, tsL A.BadPart "part" "part"), (.ref A.BadHead, 3, tsL A.BadHead "head" "index"), (.ref A.BadName, 3, tsQ K A.BadName "name" "name"), (.ref A.BadWord, 3, tsQ K A.BadWord "word" "word"), (.ref A.BadWords, 3, tsL A.BadWords "words" "index")]) (Wo := fun _ _ _ _ => False) rfl rfl sc__law_refused.nd takes0
        (fun W pn xe tk _ => (pss_one (ps_expr (by exact (pe_ownS O__law_called (hr.mono (by decide)) tk (pa_cons (pv 0) (pa_cons (pv 1) (pa_cons (pv 2) pa_nil))))))))
        (.cons rfl rfl ⟨rfl, by decide, Or.inl T.BadPart.gC⟩ (fun a oe cls d pn hz hf => pss_one (ps_ret (pe_lst (pa_cons pe_str (pa_cons (by exact (pe_xf ⟨T.BadPart.ec.hg, T.BadPart.ec.hk, T.BadPart.ec.hs, T.BadPart.ec.hd⟩ T.BadPart.noA hz hf (pv 3))) pa_nil)))))
        (.cons rfl rfl ⟨rfl, by decide, Or.inl T.BadHead.gC⟩ (fun a oe cls d pn hz hf => pss_one (ps_ret (pe_lst (pa_cons pe_str (pa_cons (by exact (pe_xf ⟨T.BadHead.ec.hg, T.BadHead.ec.hk, T.BadHead.ec.hs, T.BadHead.ec.hd⟩ T.BadHead.noA hz hf (pv 3))) pa_nil)))))
        (.cons rfl rfl ⟨rfl, by decide, Or.inl T.BadName.gC⟩ (fun a oe cls d pn hz hf => pss_one (ps_ret (pe_lst (pa_cons pe_str (pa_cons (pe_callB (call_reprK rfl (by exact hg) (by exact hu65)) (by rfl) T.n_repr (by decide +kernel) (pa_cons (by exact (pe_xf ⟨T.BadName.ec.hg, T.BadName.ec.hk, T.BadName.ec.hs, T.BadName.ec.hd⟩ T.BadName.noA hz hf (pv 3))) pa_nil)) pa_nil)))))
        (.cons rfl rfl ⟨rfl, by decide, Or.inl T.BadWord.gC⟩ (fun a oe cls d pn hz hf => pss_one (ps_ret (pe_lst (pa_cons pe_str (pa_cons (pe_callB (call_reprK rfl (by exact hg) (by exact hu65)) (by rfl) T.n_repr (by decide +kernel) (pa_cons (by exact (pe_xf ⟨T.BadWord.ec.hg, T.BadWord.ec.hk, T.BadWord.ec.hs, T.BadWord.ec.hd⟩ T.BadWord.noA hz hf (pv 3))) pa_nil)) pa_nil)))))
        (.cons rfl rfl ⟨rfl, by decide, Or.inl T.BadWords.gC⟩ (fun a oe cls d pn hz hf => pss_one (ps_ret (pe_lst (pa_cons pe_str (pa_cons (by exact (pe_xf ⟨T.BadWords.ec.hg, T.BadWords.ec.hk, T.BadWords.ec.hs, T.BadWords.ec.hd⟩ T.BadWords.noA hz hf (pv 3))) pa_nil)))))
        .nil))))))
      (pss_one (ps_ret (pe_non))), ?_⟩
    refine ⟨_, rfl, _, rfl, _, rfl, door, x, y, o, rfl, hA, fun ho H' e => ?_, as_oc T rfl h⟩
    subst ho
    exact h H' e
end
end K02

set_option Elab.async false
set_option maxRecDepth 100000
set_option maxHeartbeats 4000000
namespace K02
open PySem PySem.Spec PyProof.Rows L2
theorem read_no {d : PyData} (h : wordD d = false) (n : Nat) (s : St Str) : readD d n s = none := by
  unfold readD
  rw [if_neg (by rw [h]; decide)]
def longA : PyData := .tuple [.str "long", .str "a"]
theorem read_long (n : Nat) (s : St Str) : readD longA n s = some "a" := by
  unfold readD
  rw [if_pos (show wordD longA = true by decide +kernel)]
  rfl
theorem readI_two {d : PyData} (h : wordD d = false) (n : Nat) (s : St Str) (ds : List PyData) : readI n s (longA :: d :: ds) = ([("a" : Str)], false) := by
  show (match readD longA n s with | none => ([], false) | some h => (h :: (readI n (step s h) (d :: ds)).1, (readI n (step s h) (d :: ds)).2)) = _
  rw [read_long]
  show (("a" : Str) :: (match readD d n (step s "a") with | none => ([], false) | some h => (h :: (readI n (step (step s "a") h) ds).1, (readI n (step (step s "a") h) ds).2)).1, (match readD d n (step s "a") with | none => ([], false) | some h => (h :: (readI n (step (step s "a") h) ds).1, (readI n (step (step s "a") h) ds).2)).2) = _
  rw [read_no h]
theorem readI_one {d : PyData} {n : Nat} {s : St Str} (h : readD d n s = none) : readI n s [d] = ([], false) := by
  show (match readD d n s with | none => ([], false) | some h => (h :: (readI n (step s h) []).1, (readI n (step s h) []).2)) = _
  rw [h]
def shortD (p : Nat) : PyData := .tuple [.str "short", .int (p : Int)]
theorem short_word {p : Nat} (h : p < 4) : wordD (shortD p) = true := by
  match p, h with
  | 0, _ => decide +kernel
  | 1, _ => decide +kernel
  | 2, _ => decide +kernel
  | 3, _ => decide +kernel
theorem short_read {n : Nat} {s : St Str} (g : Good n s) {p : Nat} (h : p < 4) : (readD (shortD p) n s).isSome = decide (p < s.2.length) := by
  obtain ⟨hn, ns, ok, _⟩ := g
  unfold readD
  rw [if_pos (short_word h), ok.olen]
  show (if ("short" : Str) = "long" then _ else (if (p : Int) < (n : Int) then (s.1[(p : Int).toNat]?).join else none)).isSome = _
  rw [if_neg (by decide), Int.toNat_natCast]
  have hle := ok.le
  by_cases h1 : p < ns.length
  · rw [if_pos (by omega), ok.get h1, decide_eq_true h1]; rfl
  · rw [decide_eq_false h1]
    by_cases h2 : p < n
    · rw [if_pos (by omega), ok.blank (by omega) h2]; rfl
    · rw [if_neg (by omega)]; rfl
theorem short_shw {p : Nat} (h : p < 4) : Shw (shortD p) := by
  match p, h with
  | 0, _ => show _ ∧ _ ∧ _ ∧ _; decide +kernel
  | 1, _ => show _ ∧ _ ∧ _ ∧ _; decide +kernel
  | 2, _ => show _ ∧ _ ∧ _ ∧ _; decide +kernel
  | 3, _ => show _ ∧ _ ∧ _ ∧ _; decide +kernel
theorem short_at {K : PySem.W.Frag} {H : Hp} {t : Addr} {p : Nat} (h : H t = some (.tup [.str "short", .int (p : Int)])) : Dp K H (.ref t) (shortD p) := .tup (SqT.of h) (.cons (.str _) (.cons (.int _) .nil))
def odd9 : List PyData := [.none, .int 5, .tuple [], .tuple [.str "short"], .list [.str "short", .int 0], .tuple [.str "short", .int 4], .tuple [.str "short", .int (-1)], .tuple [.str "short", .bool true], .tuple [.str "long", .str "A"]]
theorem odd9_no : ∀ d ∈ odd9, wordD d = false ∧ d.canLay0 = true ∧ d.depth ≤ 64 ∧ d.showable = true ∧ d.shown.length ≤ sizeLine ∧ PyData.canLay0 (.str d.shown) = true := by decide +kernel
theorem odd9_sm : ∀ d ∈ odd9, SmD (sndD d) := by
  intro d hd
  simp only [odd9, List.mem_cons, List.not_mem_nil, or_false] at hd
  rcases hd with rfl | rfl | rfl | rfl | rfl | rfl | rfl | rfl | rfl <;> first | trivial | (show (_ : Nat) ≤ 1000; decide +kernel)
theorem odd9_shw {d : PyData} (h : d ∈ odd9) : Shw d := by
  obtain ⟨_, a, b, c, e, _⟩ := odd9_no d h
  exact ⟨a, b, c, e⟩
theorem flS {s : Str} (h : PyData.canLay0 (.str s) = true) : Fl (.str s) := h
theorem fl_wd : Fl (.str "word") := flS (by decide +kernel)
theorem fl_wds : Fl (.str "words") := flS (by decide +kernel)
theorem fl_hd : Fl (.str "head") := flS (by decide +kernel)
theorem fl_nm : Fl (.str "name") := flS (by decide +kernel)
theorem fl_pt : Fl (.str "part") := flS (by decide +kernel)
theorem fl_int (i : Int) : Fl (.int i) := trivial
theorem fl_non : Fl .non := trivial
theorem iteN {c A B : Prop} [Decidable c] (h : ¬ c) (b : B) : if c then A else B := by
  rw [if_neg h]
  exact b
theorem ne_same {K : PySem.W.Frag} {H : Hp} {t t' : Addr} {xs : List V} {Q : VK} (h : H t = some (.lst xs)) (h' : H t' = some (.lst xs)) (fx : ∀ v ∈ xs, Fl v) (q : Q (.bl false) H) : rNeD K (.ref t) (.ref t') H Q := by
  refine neD_lst (SqL.of h) (SqL.of h') fx fx ?_
  have : PyData.eqvAll (xs.map pd) (xs.map pd) = true := PySem.SeqAt.eqv_refl (.list (xs.map pd)) (lay_all fx).1
  rw [this]
  exact q
theorem fl_two {a b : V} (ha : Fl a) (hb : Fl b) : ∀ v ∈ [a, b], Fl v := fun v hv => by
  rcases List.mem_cons.mp hv with rfl | hv
  · exact ha
  · rw [List.mem_singleton.mp hv]
    exact hb
/-- what is no list and no book -/
def Odd4 (H : Hp) (v : V) : Prop := v = .non ∨ v = .int 5 ∨ v = .str "a" ∨ ∃ a, v = .ref a ∧ H a = some (.dK [])
theorem Odd4.ext {H H' : Hp} {v : V} (h : Odd4 H v) (e : Ext H H') : Odd4 H' v := by
  rcases h with h | h | h | ⟨a, h, h2⟩
  · exact .inl h
  · exact .inr (.inl h)
  · exact .inr (.inr (.inl h))
  · exact .inr (.inr (.inr ⟨a, h, e _ _ h2⟩))
theorem Odd4.thg {K : PySem.W.Frag} {H : Hp} {v : V} (h : Odd4 H v) : ∃ d, Thg K H v d ∧ isSeqD d = false := by
  rcases h with rfl | rfl | rfl | ⟨a, rfl, h2⟩
  · exact ⟨.none, .inl .non, rfl⟩
  · exact ⟨.int 5, .inl (.int _), rfl⟩
  · exact ⟨.str "a", .inl (.str _), rfl⟩
  · exact ⟨.dict [], .inr ⟨rfl, a, rfl, h2⟩, rfl⟩
section
variable {P : Program} {w : World} {K : PySem.W.Frag} {mg : Str → Option Value} {base : Heap} {A : Ad}
def spWr (K : PySem.W.Frag) (A : Ad) : Sp := fun vs H Q _ => ∃ (b : Addr) (n : Nat) (s : St Str) (x y : V), vs = [.ref b, x, y] ∧ BkAt K A H b n s ∧ Good n s ∧ ∀ H', Ext H H' → Q (.bl true) H'
theorem ok_wr {f : Addr} {fd : FuncData} (F : Fun K "_law_words_refused" "_law_words_refused" s__law_words_refused f fd) (T : Txt K mg A) (O__law_refused : OwnClr P w K mg base CX0 "_law_refused" 10 pm__law_refused (spRefd K A)) (O_is_word : Own P w K mg base CX0 "is_word" 4 pm_is_word (spWord K)) (O_Book_len : OwnM P w K mg base CX0 A.Book "__len__" 1 pm_Book_len (spLen K A)) : FnClr P w K mg base CX0 12 f fd pm__law_words_refused (spWr K A) := by
  refine F.okClr sc__law_words_refused (fun vs H Q E h => ?_) (fun cdv A' outer sh H vs Q E hg hr h => ?_)
  · obtain ⟨_, _, _, _, _, rfl, _⟩ := h
    rfl
  · obtain ⟨b, n, s, x, y, rfl, hB, g, q⟩ := h
    have hu65 : (A'.deeper (envOfC "_law_words_refused" (defScope s__law_words_refused) sh.heap.objs.size f cdv)).units + 65 < cLine := by
      have := hr.un
      omega
    refine ⟨_, pss_cons (ps_for PassesOwn.never rfl (pi_list (pe_lst (pa_cons (pe_non) (pa_cons (pe_int) (pa_cons (pe_tup (pa_nil)) (pa_cons (pe_tup (pa_cons (pe_str) pa_nil)) (pa_cons (pe_lst (pa_cons (pe_str) (pa_cons (pe_int) pa_nil))) (pa_cons (pe_tup (pa_cons (pe_str) (pa_cons (pe_int) pa_nil))) (pa_cons (pe_tup (pa_cons (pe_str) (pa_cons (pe_un un_neg (pe_int)) pa_nil))) (pa_cons (pe_tup (pa_cons (pe_str) (pa_cons (pe_bl) pa_nil))) (pa_cons (pe_tup (pa_cons (pe_str) (pa_cons (pe_str) pa_nil))) pa_nil))))))))))) (pg_name (i := 3) sc__law_words_refused.nd rfl (Or.inl rfl)) (pss_cons (ps_if (PW.pt (pw_or (pt_cmpR (op_neD hr.units) (pe_ownClr O__law_refused hg (hr.mono (by decide)) pass0 (pa_cons (pe_int) (pa_cons (pv 0) (pa_cons (pv 3) pa_nil)))) (pe_lst (pa_cons (pe_str) (pa_cons (pe_callB (call_reprK rfl hg hu65) (by rfl) T.n_repr (by decide +kernel) (pa_cons (pv 3) pa_nil)) pa_nil))) (nomark _)) (pw_or1 (pt_cmpR op_notBl (pe_own O_is_word (hr.mono (by decide)) pass0 (pa_cons (pv 3) pa_nil)) (pe_bl) (nomark _))))) (pss_one (ps_ret (pe_bl))) (pss_nil))
      (pss_one (ps_if (pt_cmpR (op_neD hr.units) (pe_ownClr O__law_refused hg (hr.mono (by decide)) pass0 (pa_cons (pe_int) (pa_cons (pv 0) (pa_cons (pe_lst (pa_cons (pe_tup (pa_cons (pe_str) (pa_cons (pe_str) pa_nil))) (pa_cons (pv 3) (pa_cons (pe_non) pa_nil)))) pa_nil)))) (pe_lst (pa_cons (pe_str) (pa_cons (pe_int) pa_nil))) (nomark _)) (pss_one (ps_ret (pe_bl))) (pss_nil)))))
      (pss_cons (ps_for PassesOwn.never rfl (pi_range1 rfl T.n_range (pa_cons (pe_int) pa_nil)) (pg_name (i := 4) sc__law_words_refused.nd rfl (Or.inl rfl)) (pss_cons (ps_set (i := 5) sc__law_words_refused.nd rfl (Or.inl rfl) (pe_cmpR op_le (pe_callB (lenO O_Book_len (hr.mono (by decide)) pass0) (by rfl) T.n_len (by decide +kernel) (pa_cons (pv 0) pa_nil)) (pv 4) (nomark _)))
      (pss_cons (ps_if (pt_cmpR op_eq (pe_cmpR op_isN (pe_ownClr O__law_refused hg (hr.mono (by decide)) pass0 (pa_cons (pe_int) (pa_cons (pv 0) (pa_cons (pe_tup (pa_cons (pe_str) (pa_cons (pv 4) pa_nil))) pa_nil)))) (pe_non) (nomark _)) (pv 5) (nomark _)) (pss_one (ps_ret (pe_bl))) (pss_nil))
      (pss_cons (ps_if (pt_cmpR op_notBl (pe_own O_is_word (hr.mono (by decide)) pass0 (pa_cons (pe_tup (pa_cons (pe_str) (pa_cons (pv 4) pa_nil))) pa_nil)) (pe_bl) (nomark _)) (pss_one (ps_ret (pe_bl))) (pss_nil))
      (pss_one (ps_if (PW.pt (pw_and (pt_truth (pv 5) (by intro _; rfl)) (pw_and1 (pt_cmpR (op_neD hr.units) (pe_ownClr O__law_refused hg (hr.mono (by decide)) pass0 (pa_cons (pe_int) (pa_cons (pv 0) (pa_cons (pe_lst (pa_cons (pe_tup (pa_cons (pe_str) (pa_cons (pv 4) pa_nil))) pa_nil)) pa_nil)))) (pe_lst (pa_cons (pe_str) (pa_cons (pe_int) pa_nil))) (nomark _))))) (pss_one (ps_ret (pe_bl))) (pss_nil)))))))
      (pss_cons (ps_for PassesOwn.never rfl (pi_list (pe_lst (pa_cons (pe_non) (pa_cons (pe_int) (pa_cons (pe_str) (pa_cons (pe_dnewK) pa_nil)))))) (pg_name (i := 3) sc__law_words_refused.nd rfl (Or.inl rfl)) (pss_cons (ps_if (pt_cmpR (op_neD hr.units) (pe_ownClr O__law_refused hg (hr.mono (by decide)) pass0 (pa_cons (pe_int) (pa_cons (pv 0) (pa_cons (pv 3) pa_nil)))) (pe_lst (pa_cons (pe_str) (pa_cons (pe_non) pa_nil))) (nomark _)) (pss_one (ps_ret (pe_bl))) (pss_nil))
      (pss_one (ps_if (pt_cmpR (op_neD hr.units) (pe_ownClr O__law_refused hg (hr.mono (by decide)) pass0 (pa_cons (pe_int) (pa_cons (pv 0) (pa_cons (pv 3) pa_nil)))) (pe_lst (pa_cons (pe_str) (pa_cons (pe_non) pa_nil))) (nomark _)) (pss_one (ps_ret (pe_bl))) (pss_nil)))))
      (pss_one (ps_ret (pe_bl))))), ?_⟩
    refine ⟨by show 0 ≤ sizeLine; decide, fun t1 h1 => ?_⟩
    have e1 := Ext.upd (o := .tup []) h1
    have m1 : upd H t1 (.tup []) t1 = some (.tup []) := upd_same
    generalize upd H t1 (.tup []) = J1 at e1 m1 ⊢
    refine ⟨by show 1 ≤ sizeLine; decide, fun t2 h2 => ?_⟩
    have e2 := Ext.upd (o := .tup [V.str "short"]) h2
    have m2 : upd J1 t2 (.tup [V.str "short"]) t2 = some (.tup [V.str "short"]) := upd_same
    generalize upd J1 t2 (.tup [V.str "short"]) = J2 at e2 m2 ⊢
    refine ⟨by show 2 ≤ sizeLine; decide, fun t3 h3 => ?_⟩
    have e3 := Ext.upd (o := .lst [V.str "short", .int 0]) h3
    have m3 : upd J2 t3 (.lst [V.str "short", .int 0]) t3 = some (.lst [V.str "short", .int 0]) := upd_same
    generalize upd J2 t3 (.lst [V.str "short", .int 0]) = J3 at e3 m3 ⊢
    refine ⟨by show 2 ≤ sizeLine; decide, fun t4 h4 => ?_⟩
    have e4 := Ext.upd (o := .tup [V.str "short", .int 4]) h4
    have m4 : upd J3 t4 (.tup [V.str "short", .int 4]) t4 = some (.tup [V.str "short", .int 4]) := upd_same
    generalize upd J3 t4 (.tup [V.str "short", .int 4]) = J4 at e4 m4 ⊢
    refine ⟨_, rfl, by show 2 ≤ sizeLine; decide, fun t5 h5 => ?_⟩
    have e5 := Ext.upd (o := .tup [V.str "short", .int (-1)]) h5
    have m5 : upd J4 t5 (.tup [V.str "short", .int (-1)]) t5 = some (.tup [V.str "short", .int (-1)]) := upd_same
    generalize upd J4 t5 (.tup [V.str "short", .int (-1)]) = J5 at e5 m5 ⊢
    refine ⟨by show 2 ≤ sizeLine; decide, fun t6 h6 => ?_⟩
    have e6 := Ext.upd (o := .tup [V.str "short", .bl true]) h6
    have m6 : upd J5 t6 (.tup [V.str "short", .bl true]) t6 = some (.tup [V.str "short", .bl true]) := upd_same
    generalize upd J5 t6 (.tup [V.str "short", .bl true]) = J6 at e6 m6 ⊢
    refine ⟨by show 2 ≤ sizeLine; decide, fun t7 h7 => ?_⟩
    have e7 := Ext.upd (o := .tup [V.str "long", .str "A"]) h7
    have m7 : upd J6 t7 (.tup [V.str "long", .str "A"]) t7 = some (.tup [V.str "long", .str "A"]) := upd_same
    generalize upd J6 t7 (.tup [V.str "long", .str "A"]) = J7 at e7 m7 ⊢
    refine ⟨by show 9 ≤ sizeLine; decide, fun l hl => ?_⟩
    have e8 := Ext.upd (o := .lst [V.non, .int 5, .ref t1, .ref t2, .ref t3, .ref t4, .ref t5, .ref t6, .ref t7]) hl
    have ml : upd J7 l (.lst [V.non, .int 5, .ref t1, .ref t2, .ref t3, .ref t4, .ref t5, .ref t6, .ref t7]) l = some (.lst [V.non, .int 5, .ref t1, .ref t2, .ref t3, .ref t4, .ref t5, .ref t6, .ref t7]) := upd_same
    generalize upd J7 l (.lst [V.non, .int 5, .ref t1, .ref t2, .ref t3, .ref t4, .ref t5, .ref t6, .ref t7]) = J8 at e8 ml ⊢
    have x7 := e8
    have x6 := e7.trans x7
    have x5 := e6.trans x6
    have x4 := e5.trans x5
    have x3 := e4.trans x4
    have x2 := e3.trans x3
    have x1 := e2.trans x2
    have x0 := e1.trans x1
    have hdp : DpAll K J8 [V.non, .int 5, .ref t1, .ref t2, .ref t3, .ref t4, .ref t5, .ref t6, .ref t7] odd9 := .cons .non (.cons (.int _) (.cons (.tup (SqT.of (x1 _ _ m1)) .nil) (.cons (.tup (SqT.of (x2 _ _ m2)) (.cons (.str _) .nil)) (.cons (.lst (SqL.of (x3 _ _ m3)) (.cons (.str _) (.cons (.int _) .nil))) (.cons (.tup (SqT.of (x4 _ _ m4)) (.cons (.str _) (.cons (.int _) .nil))) (.cons (.tup (SqT.of (x5 _ _ m5)) (.cons (.str _) (.cons (.int _) .nil))) (.cons (.tup (SqT.of (x6 _ _ m6)) (.cons (.str _) (.cons (.bl _) .nil))) (.cons (.tup (SqT.of (x7 _ _ m7)) (.cons (.str _) (.cons (.str _) .nil))) .nil))))))))
    clear x1 x2 x3 x4 x5 x6 x7 e1 e2 e3 e4 e5 e6 e7 e8 m1 m2 m3 m4 m5 m6 m7
    generalize [V.non, .int 5, .ref t1, .ref t2, .ref t3, .ref t4, .ref t5, .ref t6, .ref t7] = ys at ml hdp
    refine ⟨l, rfl, ⟨_, SqL.of ml⟩, ?_⟩
    refine for_list (xs := ys) (fun i σ' H' => ∃ o3, σ' = [some (.ref b), some x, some y, o3, none, none] ∧ Ext J8 H') ⟨_, rfl, Ext.rfl'⟩ (fun i σ' H' _ pv => by obtain ⟨_, _, e⟩ := pv; exact SqL.of (e _ _ ml)) (fun i v σ' H' hxi pv => ?_) (fun σ' H' pv => ?_)
    · obtain ⟨o3, rfl, e⟩ := pv
      obtain ⟨d, hdi, hd⟩ := dps_get (dps_ext e _ _ hdp) hxi
      have hmem := List.mem_of_getElem? hdi
      obtain ⟨hw, c1, c2, c3, c4, c5⟩ := odd9_no d hmem
      have hsm := odd9_sm d hmem
      have hB' := hB.ext (x0.trans e)
      refine ⟨_, rfl, _, rfl, 3, .ref b, v, .word v, rfl, .inr (.inr (.inl ⟨rfl, b, n, s, d, rfl, hB', g, hd, hsm, .inl ⟨read_no hw n s, rfl⟩⟩)), d, hd, odd9_shw hmem, fun t9 H9 e9 m9 => ?_⟩
      have hd9 := dp_ext e9 _ _ hd
      refine ⟨_, rfl, v, d, rfl, hd9, c1, c2, c3, c4, by show 2 ≤ sizeLine; decide, fun t10 h10 => ?_⟩
      have e10 := Ext.upd (o := .lst [V.str "word", .str d.shown]) h10
      refine ne_same (e10 _ _ m9) upd_same (fl_two fl_wd c5) ⟨_, rfl, ?_⟩
      have e910 := e9.trans e10
      have hd10 := dp_ext e910 _ _ hd
      refine iteF ⟨_, rfl, v, d, rfl, hd10, hsm, fun H11 e11 => ⟨_, _, rfl, rfl, _, rfl, ?_⟩⟩
      rw [hw]
      have e011 := e910.trans e11
      refine iteF ⟨_, rfl, by show 2 ≤ sizeLine; decide, fun t12 h12 => ?_⟩
      have e12 := Ext.upd (o := .tup [V.str "long", .str "a"]) h12
      have m12 : upd H11 t12 (.tup [V.str "long", .str "a"]) t12 = some (.tup [V.str "long", .str "a"]) := upd_same
      refine ⟨_, rfl, by show 3 ≤ sizeLine; decide, fun l13 h13 => ?_⟩
      have e13 := Ext.upd (o := .lst [.ref t12, v, .non]) h13
      have e013 := (e011.trans e12).trans e13
      have hda : Dp K _ (.ref l13) (.list [longA, d, .none]) := .lst (SqL.of upd_same) (.cons (.tup (SqT.of (e13 _ _ m12)) (.cons (.str _) (.cons (.str _) .nil))) (.cons (dp_ext e013 _ _ hd) (.cons .non .nil)))
      refine ⟨7, .ref b, .ref l13, .words (.int 1), rfl, .inr (.inr (.inr (.inr (.inl ⟨rfl, .inr ⟨b, n, s, rfl, hB'.ext e013, g, .inr ⟨_, [longA, d, .none], hda, rfl, by show (3 : Nat) ≤ 1000; decide, fun z hz => ?_, by rw [readI_two hw], by rw [readI_two hw]; rfl⟩⟩⟩)))), fun t14 H14 e14 m14 => ⟨by show 2 ≤ sizeLine; decide, fun t15 h15 => ?_⟩⟩
      · simp only [List.mem_cons, List.not_mem_nil, or_false] at hz
        rcases hz with rfl | rfl | rfl
        · show (_ : Nat) ≤ 1000
          decide +kernel
        · exact hsm
        · trivial
      have e15 := Ext.upd (o := .lst [V.str "words", .int 1]) h15
      refine ne_same (e15 _ _ m14) upd_same (fl_two fl_wds (fl_int 1)) ⟨_, rfl, iteF ?_⟩
      exact ⟨_, rfl, ((e.trans e013).trans e14).trans e15⟩
    obtain ⟨o3, rfl, e⟩ := pv
    have e0 := x0.trans e
    clear hdp ml e x0
    refine ⟨_, rfl, by decide, by decide, ?_⟩
    refine for_range (fun i σ2 H2 => ∃ o4 o5, σ2 = [some (.ref b), some x, some y, o3, o4, o5] ∧ Ext H H2) ⟨_, _, rfl, e0⟩ (fun i σ2 H2 hi pv => ?_) (fun σ2 H2 pv => ?_)
    · obtain ⟨o4, o5, rfl, e1⟩ := pv
      rw [Int.zero_add]
      have hB1 := hB.ext e1
      obtain ⟨dx, ps, po, hb, _, _⟩ := id hB1
      have hsr := short_read g hi
      have hw := short_word hi
      have hs := short_shw hi
      have hsl : s.2.length ≤ 4 := by
        obtain ⟨hn, ns, ok, _⟩ := id g
        rw [ok.olen]
        have := ok.le
        omega
      refine ⟨_, rfl, b, dx, _, rfl, hb, b, n, s, rfl, hB1, _, rfl, ⟨by omega, by omega⟩, _, rfl, _, _, rfl, rfl, ?_⟩
      refine ⟨_, rfl, _, rfl, by show 2 ≤ sizeLine; decide, fun t3 h3 => ?_⟩
      have e3 := Ext.upd (o := .tup [V.str "short", .int (i : Int)]) h3
      have m3 : upd H2 t3 (.tup [V.str "short", .int (i : Int)]) t3 = some (.tup [V.str "short", .int (i : Int)]) := upd_same
      generalize upd H2 t3 (.tup [V.str "short", .int (i : Int)]) = H3 at e3 m3 ⊢
      have hB3 := hB1.ext e3
      by_cases hbl : (s.2.length : Int) ≤ (i : Int)
      · have hno : readD (shortD i) n s = none := by
          rw [decide_eq_false (by omega)] at hsr
          cases hx : readD (shortD i) n s with
          | none => rfl
          | some z => rw [hx] at hsr; cases hsr
        refine ⟨3, .ref b, .ref t3, .word (.ref t3), rfl, .inr (.inr (.inl ⟨rfl, b, n, s, shortD i, rfl, hB3, g, short_at m3, trivial, .inl ⟨hno, rfl⟩⟩)), shortD i, short_at m3, hs, fun t4 H4 e4 m4 => ?_⟩
        refine ⟨rfl, _, rfl, rfl, _, rfl, ?_⟩
        refine iteN (by show ¬ (decide (V.bl (decide (V.ref t4 = V.non)) = V.bl (decide ((s.2.length : Int) ≤ (i : Int)))) = true); rw [decide_eq_true hbl, show decide (V.ref t4 = V.non) = false from decide_eq_false (fun z => by cases z)]; decide) ⟨_, rfl, by show 2 ≤ sizeLine; decide, fun t5 h5 => ?_⟩
        have e5 := Ext.upd (o := .tup [V.str "short", .int (i : Int)]) h5
        have m5 : upd H4 t5 (.tup [V.str "short", .int (i : Int)]) t5 = some (.tup [V.str "short", .int (i : Int)]) := upd_same
        generalize upd H4 t5 (.tup [V.str "short", .int (i : Int)]) = H5 at e5 m5 ⊢
        refine ⟨_, shortD i, rfl, short_at m5, trivial, fun H6 e6 => ⟨_, _, rfl, rfl, _, rfl, ?_⟩⟩
        rw [hw]
        have e36 := (e4.trans e5).trans e6
        refine iteF ⟨_, rfl, true, (show true = decide ((s.2.length : Int) ≤ (i : Int)) from (decide_eq_true hbl).symm), ?_⟩
        refine iteT ⟨_, rfl, _, rfl, by show 2 ≤ sizeLine; decide, fun t7 h7 => ?_⟩
        have e7 := Ext.upd (o := .tup [V.str "short", .int (i : Int)]) h7
        have m7 : upd H6 t7 (.tup [V.str "short", .int (i : Int)]) t7 = some (.tup [V.str "short", .int (i : Int)]) := upd_same
        refine ⟨by show 1 ≤ sizeLine; decide, fun l8 h8 => ?_⟩
        have e8 := Ext.upd (o := .lst [V.ref t7]) h8
        have e38 := (e36.trans e7).trans e8
        refine ⟨7, .ref b, .ref l8, .words (.int 0), rfl, .inr (.inr (.inr (.inr (.inl ⟨rfl, .inr ⟨b, n, s, rfl, hB3.ext e38, g, .inr ⟨_, [shortD i], .lst (SqL.of upd_same) (.cons (short_at (e8 _ _ m7)) .nil), rfl, by show (1 : Nat) ≤ 1000; decide, fun z hz => by rw [List.mem_singleton.mp hz]; trivial, by rw [readI_one hno], by rw [readI_one hno]; rfl⟩⟩⟩)))), fun t9 H9 e9 m9 => ⟨by show 2 ≤ sizeLine; decide, fun t10 h10 => ?_⟩⟩
        have e10 := Ext.upd (o := .lst [V.str "words", .int 0]) h10
        refine ne_same (e10 _ _ m9) upd_same (fl_two fl_wds (fl_int 0)) ⟨_, rfl, iteF ?_⟩
        exact ⟨_, _, rfl, (((e1.trans e3).trans e38).trans e9).trans e10⟩
      · have hyes : (readD (shortD i) n s).isSome = true := by rw [hsr, decide_eq_true (by omega)]
        refine ⟨3, .ref b, .ref t3, .ok, rfl, .inr (.inr (.inl ⟨rfl, b, n, s, shortD i, rfl, hB3, g, short_at m3, trivial, .inr ⟨hyes, rfl⟩⟩)), fun H4 e4 => ?_⟩
        refine ⟨rfl, _, rfl, rfl, _, rfl, ?_⟩
        refine iteN (by show ¬ (decide (V.bl (decide (V.non = V.non)) = V.bl (decide ((s.2.length : Int) ≤ (i : Int)))) = true); rw [decide_eq_false hbl]; decide) ⟨_, rfl, by show 2 ≤ sizeLine; decide, fun t5 h5 => ?_⟩
        have e5 := Ext.upd (o := .tup [V.str "short", .int (i : Int)]) h5
        have m5 : upd H4 t5 (.tup [V.str "short", .int (i : Int)]) t5 = some (.tup [V.str "short", .int (i : Int)]) := upd_same
        generalize upd H4 t5 (.tup [V.str "short", .int (i : Int)]) = H5 at e5 m5 ⊢
        refine ⟨_, shortD i, rfl, short_at m5, trivial, fun H6 e6 => ⟨_, _, rfl, rfl, _, rfl, ?_⟩⟩
        rw [hw]
        have e36 := (e4.trans e5).trans e6
        refine iteF ⟨_, rfl, false, (show false = decide ((s.2.length : Int) ≤ (i : Int)) from (decide_eq_false hbl).symm), ?_⟩
        exact iteF (iteF ⟨_, _, rfl, (e1.trans e3).trans e36⟩)
    obtain ⟨o4, o5, rfl, e1⟩ := pv
    refine fun a ha => ⟨by show 4 ≤ sizeLine; decide, fun l hl => ?_⟩
    have ea := Ext.upd (o := .dK []) ha
    have ma : upd H2 a (.dK []) a = some (.dK []) := upd_same
    have el := Ext.upd (o := .lst [V.non, .int 5, .str "a", .ref a]) hl
    have ml := upd_same (a := l) (o := .lst [V.non, .int 5, .str "a", .ref a]) (H := upd H2 a (.dK []))
    have ma' := el _ _ ma
    have e2 := (e1.trans ea).trans el
    generalize upd (upd H2 a (.dK [])) l (.lst [V.non, .int 5, .str "a", .ref a]) = H3 at el ml ma' e2 ⊢
    refine ⟨l, rfl, ⟨_, SqL.of ml⟩, ?_⟩
    refine for_list (xs := [V.non, .int 5, .str "a", .ref a]) (fun i σ' H' => ∃ o3, σ' = [some (.ref b), some x, some y, o3, o4, o5] ∧ Ext H3 H') ⟨_, rfl, Ext.rfl'⟩ (fun i σ' H' _ pv => by obtain ⟨_, _, e⟩ := pv; exact SqL.of (e _ _ ml)) (fun i v σ' H' hxi pv => ?_) (fun σ' H' pv => ?_)
    · obtain ⟨o3', rfl, e⟩ := pv
      have ho : Odd4 H3 v := by
        rcases i with _ | _ | _ | _ | i
        · cases hxi; exact .inl rfl
        · cases hxi; exact .inr (.inl rfl)
        · cases hxi; exact .inr (.inr (.inl rfl))
        · cases hxi; exact .inr (.inr (.inr ⟨a, rfl, ma'⟩))
        · cases hxi
      obtain ⟨d, hd, hq⟩ := (ho.ext e).thg (K := K)
      have hB' := hB.ext (e2.trans e)
      refine ⟨_, rfl, _, rfl, 6, .ref b, v, .head .non, rfl, .inr (.inr (.inr (.inl ⟨rfl, .inr ⟨b, n, s, .non, rfl, hB', g, .inl ⟨d, hd, hq, rfl⟩, rfl⟩⟩))), fun t4 H4 e4 m4 => ⟨by show 2 ≤ sizeLine; decide, fun t5 h5 => ?_⟩⟩
      have e5 := Ext.upd (o := .lst [V.str "head", .non]) h5
      refine ne_same (e5 _ _ m4) upd_same (fl_two fl_hd fl_non) ⟨_, rfl, iteF ?_⟩
      have e45 := e4.trans e5
      refine ⟨_, rfl, _, rfl, 7, .ref b, v, .words .non, rfl, .inr (.inr (.inr (.inr (.inl ⟨rfl, .inr ⟨b, n, s, rfl, hB'.ext e45, g, .inl ⟨d, hd.ext e45, hq, rfl⟩⟩⟩)))), fun t6 H6 e6 m6 => ⟨by show 2 ≤ sizeLine; decide, fun t7 h7 => ?_⟩⟩
      have e7 := Ext.upd (o := .lst [V.str "words", .non]) h7
      refine ne_same (e7 _ _ m6) upd_same (fl_two fl_wds fl_non) ⟨_, rfl, iteF ?_⟩
      exact ⟨_, rfl, ((e.trans e45).trans e6).trans e7⟩
    · obtain ⟨o3', rfl, e⟩ := pv
      exact q _ (e2.trans e)
end
end K02

set_option Elab.async false
set_option maxRecDepth 100000
set_option maxHeartbeats 4000000
namespace K02
open PySem PySem.Spec PyProof.Rows L2
theorem two_at {a b : Int} {i : Nat} {v : V} (h : [V.int a, .int b][i]? = some v) : ∃ d : Int, v = .int d ∧ (d = a ∨ d = b) := by
  rcases i with _ | _ | i
  · cases h; exact ⟨a, rfl, .inl rfl⟩
  · cases h; exact ⟨b, rfl, .inr rfl⟩
  · cases h
def pl5 : List V := [.non, .int (-1), .int 5, .bl true, .str "0"]
theorem pl_at {K : PySem.W.Frag} {i : Nat} {v : V} (h : pl5[i]? = some v) : ∃ d, (∀ H : Hp, Dp K H v d) ∧ betD d 0 4 = false := by
  rcases i with _ | _ | _ | _ | _ | i
  · cases h; exact ⟨.none, fun _ => .non, by decide +kernel⟩
  · cases h; exact ⟨.int (-1), fun _ => .int _, by decide +kernel⟩
  · cases h; exact ⟨.int 5, fun _ => .int _, by decide +kernel⟩
  · cases h; exact ⟨.bool true, fun _ => .bl _, by decide +kernel⟩
  · cases h; exact ⟨.str "0", fun _ => .str _, by decide +kernel⟩
  · cases h
def nm7 : List PyData := [.none, .int 5, .str "", .str "A", .str "abcdefghi", .tuple [.str "a"], .str "a b"]
theorem nm7_no : ∀ d ∈ nm7, nameD d = false ∧ d.canLay0 = true ∧ d.depth ≤ 64 ∧ d.showable = true ∧ d.shown.length ≤ sizeLine ∧ PyData.canLay0 (.str d.shown) = true := by decide +kernel
theorem nm7_sm : ∀ d ∈ nm7, SmD d := by
  intro d hd
  simp only [nm7, List.mem_cons, List.not_mem_nil, or_false] at hd
  rcases hd with rfl | rfl | rfl | rfl | rfl | rfl | rfl <;> first | trivial | (show (_ : Nat) ≤ 1000; decide +kernel)
theorem fl_pls : Fl (.str "places") := flS (by decide +kernel)
theorem fl_bk : Fl (.str "book") := flS (by decide +kernel)
theorem fl_one : Fl (.str "one") := flS (by decide +kernel)
theorem fl_oth : Fl (.str "other") := flS (by decide +kernel)
theorem odd_at {H : Hp} {a : Addr} {i : Nat} {v : V} (ha : H a = some (.dK [])) (h : [V.non, .int 5, .str "a", .ref a][i]? = some v) : Odd4 H v := by
  rcases i with _ | _ | _ | _ | i
  · cases h; exact .inl rfl
  · cases h; exact .inr (.inl rfl)
  · cases h; exact .inr (.inr (.inl rfl))
  · cases h; exact .inr (.inr (.inr ⟨a, rfl, ha⟩))
  · cases h
section
variable {P : Program} {w : World} {K : PySem.W.Frag} {mg : Str → Option Value} {base : Heap} {A : Ad}
theorem mk_bookI {H1 : Hp} {i : Int} {v : V} {du : PyData} {n : Nat} {us : List Str} {R : VK} {E : XK} {x0 dx : Addr} (hi : i = (n : Int)) (hx0 : H1 x0 = none) (hdx : H1 dx = none) (hne : dx ≠ x0) (hn : n ≤ 4) (hv : Dp K H1 v du) (hit : itemsD du = some (us.map PyData.str)) (hus : ∀ u, u ∈ us → nameS u = true)
    (q : ∀ H', Ext H1 H' → BkAt K A H' x0 n (run n us) → R .non H') : spBookInit K A [.ref x0, .int i, v] (upd (upd H1 dx (.own x0)) x0 (.ins A.Book dx [])) R E := by
  subst hi
  exact mk_book hx0 hdx hne hn hv hit hus q
theorem asks_book {H : Hp} {dr : Int} {x y : V} {d : PyData} (hr : dr = 6 ∨ dr = 7) (h : Thg K H x d) : Asks K A H dr x y (.part "book") := by
  rcases hr with rfl | rfl
  · exact .inr (.inr (.inr (.inl ⟨rfl, .inl ⟨d, h, rfl⟩⟩)))
  · exact .inr (.inr (.inr (.inr (.inl ⟨rfl, .inl ⟨d, h, rfl⟩⟩))))
theorem asks_one {H : Hp} {dr : Int} {x y : V} {d : PyData} (hr : dr = 8 ∨ dr = 9) (h : Thg K H x d) : Asks K A H dr x y (.part "one") :=
  .inr (.inr (.inr (.inr (.inr ⟨hr, .inl ⟨d, h, rfl⟩⟩))))
theorem asks_other {H : Hp} {dr : Int} {b : Addr} {n : Nat} {s : St Str} {y : V} {d : PyData} (hr : dr = 8 ∨ dr = 9) (hB : BkAt K A H b n s) (g : Good n s) (h : Thg K H y d) : Asks K A H dr (.ref b) y (.part "other") :=
  .inr (.inr (.inr (.inr (.inr ⟨hr, .inr ⟨b, n, s, rfl, hB, g, .inl ⟨d, h, rfl⟩⟩⟩))))
theorem asks_more {H : Hp} {dr : Int} {b c : Addr} {n m : Nat} {s t : St Str} (hr : dr = 8 ∨ dr = 9) (hB : BkAt K A H b n s) (g : Good n s) (hC : BkAt K A H c m t) (hnm : n ≠ m) : Asks K A H dr (.ref b) (.ref c) (.part "other") :=
  .inr (.inr (.inr (.inr (.inr ⟨hr, .inr ⟨b, n, s, rfl, hB, g, .inr (.inl ⟨c, m, t, rfl, hC, hnm, rfl⟩)⟩⟩))))
theorem asks_same {H : Hp} {dr : Int} {b : Addr} {n : Nat} {s : St Str} (hr : dr = 8 ∨ dr = 9) (hB : BkAt K A H b n s) (g : Good n s) : Asks K A H dr (.ref b) (.ref b) .ok :=
  .inr (.inr (.inr (.inr (.inr ⟨hr, .inr ⟨b, n, s, rfl, hB, g, .inr (.inr ⟨rfl, rfl⟩)⟩⟩))))
theorem dps_cat {H : Hp} {v : V} {d : PyData} (h : Dp K H v d) : ∀ hs : List Str, DpAll K H (hs.map V.str ++ [v, .non]) (hs.map PyData.str ++ [d, .none])
  | [] => .cons h (.cons .non .nil)
  | u :: us => .cons (.str u) (dps_cat h us)
theorem hds_cat {H : Hp} {l : Addr} {v : V} {d : PyData} {hs : List Str} (hl : H l = some (.lst (hs.map V.str ++ [v, .non]))) (h : Dp K H v d) (hno : nameD d = false) (hsm : SmD d) (hn : ∀ u ∈ hs, nameS u = true) (h9 : hs.length ≤ 900) : HdsX K H (.ref l) (.int ((hs.map V.str).length : Nat)) := by
  refine .inr ⟨_, hs.map PyData.str ++ [d, .none], _, .lst (SqL.of hl) (dps_cat h hs), rfl, by rw [List.length_append, List.length_map]; show hs.length + 2 ≤ 1000; omega, fun x hx => ?_, ?_, rfl⟩
  · rcases List.mem_append.mp hx with hx | hx
    · obtain ⟨u, hu, rfl⟩ := List.mem_map.mp hx
      have := name_len (hn u hu)
      show u.length ≤ 1000
      omega
    · simp only [List.mem_cons, List.not_mem_nil, or_false] at hx
      rcases hx with rfl | rfl
      · exact hsm
      · trivial
  · refine find_at (f := fun d => !nameD d) (d := d) (fun j z hj hz => ?_) ?_ (by rw [hno]; rfl)
    · rw [List.length_map] at hj
      rw [List.getElem?_append_left (by rw [List.length_map]; exact hj), List.getElem?_map] at hz
      obtain ⟨u, hu, rfl⟩ := Option.map_eq_some_iff.mp hz
      show (!nameS u) = false
      rw [hn u (List.mem_of_getElem? hu)]; rfl
    · rw [List.length_map, List.getElem?_append_right (by rw [List.length_map]; exact Nat.le_refl _), List.length_map, Nat.sub_self]; rfl
def spLaw (K : PySem.W.Frag) : Sp := fun vs H Q _ => ∃ (a : Addr) (ns : List Int), vs = [.ref a] ∧ SqL K H a (ns.map V.int) ∧ ns.length ≤ 63 ∧ ∀ H', Q (.bl true) H'
theorem ok_law {f : Addr} {fd : FuncData} (F : Fun K "law" "law" s_law f fd) (T : Txt K mg A) (O__law_pool : Own P w K mg base CX0 "_law_pool" 1 pm__law_pool (spPool K)) (O__law_draw : Own P w K mg base CX0 "_law_draw" 1 pm__law_draw spDraw) (O__law_heads : Own P w K mg base CX0 "_law_heads" 3 pm__law_heads spLHeads)
    (O_Book : OwnC P w K mg base (L2.CX P w) "Book" A.Book 5 pm_Book_init (spBookInit K A)) (O_Book1 : OwnCD P w K mg base (L2.CX P w) "Book" A.Book 5 pm_Book_init (spBookInit K A) [.ref A.T0])
    (O__law_refused : OwnClr P w K mg base CX0 "_law_refused" 10 pm__law_refused (spRefd K A)) (O__law_words_refused : OwnClr P w K mg base CX0 "_law_words_refused" 12 pm__law_words_refused (spWr K A)) : FnClr P w K mg base CX0 13 f fd pm_law (spLaw K) := by
  refine F.okClr sc_law (fun vs H Q E h => ?_) (fun cdv A' outer sh H vs Q E hg hr h => ?_)
  · obtain ⟨_, _, rfl, _⟩ := h
    rfl
  · obtain ⟨sc, ns, rfl, hsc, hl, q⟩ := h
    have hu65 : (A'.deeper (envOfC "law" (defScope s_law) sh.heap.objs.size f cdv)).units + 65 < cLine := by
      have := hr.un
      omega
    refine ⟨_, pss_cons (ps_set (i := 1) sc_law.nd rfl (Or.inl rfl) (pe_own O__law_pool (hr.mono (by decide)) pass0 (pa_cons (pv 0) (pa_cons (pe_int) pa_nil))))
      (pss_cons (ps_set (i := 2) sc_law.nd rfl (Or.inl rfl) (pe_own O__law_draw (hr.mono (by decide)) pass0 (pa_cons (pv 1) (pa_cons (pe_int) pa_nil))))
      (pss_cons (ps_set (i := 3) sc_law.nd rfl (Or.inl rfl) (pe_own O__law_heads (hr.mono (by decide)) pass0 (pa_cons (pv 1) (pa_cons (pe_own O__law_draw (hr.mono (by decide)) pass0 (pa_cons (pv 1) (pa_cons (pe_int) pa_nil))) (pa_cons (pe_int) pa_nil)))))
      (pss_cons (ps_set (i := 4) sc_law.nd rfl (Or.inl rfl) (pe_new O_Book (hr.mono (by decide)) passL (pa_cons (pv 2) (pa_cons (pv 3) pa_nil))))
      (pss_cons (ps_set (i := 5) sc_law.nd rfl (Or.inl rfl) (pe_lst (pa_cons (pe_non) (pa_cons (pe_int) (pa_cons (pe_str) (pa_cons (pe_str) (pa_cons (pe_str) (pa_cons (pe_tup (pa_cons (pe_str) pa_nil)) (pa_cons (pe_str) pa_nil)))))))))
      (pss_cons (ps_for PassesOwn.never rfl (pi_list (pe_lst (pa_cons (pe_non) (pa_cons (pe_un un_neg (pe_int)) (pa_cons (pe_int) (pa_cons (pe_bl) (pa_cons (pe_str) pa_nil))))))) (pg_name (i := 6) sc_law.nd rfl (Or.inl rfl)) (pss_one (ps_if (pt_cmpR (op_neD hr.units) (pe_ownClr O__law_refused hg (hr.mono (by decide)) pass0 (pa_cons (pe_int) (pa_cons (pv 6) (pa_cons (pe_non) pa_nil)))) (pe_lst (pa_cons (pe_str) (pa_cons (pe_str) pa_nil))) (nomark _)) (pss_one (ps_ret (pe_bl))) (pss_nil))))
      (pss_cons (ps_for PassesOwn.never rfl (pi_list (pe_lst (pa_cons (pe_non) (pa_cons (pe_int) (pa_cons (pe_str) (pa_cons (pe_dnewK) pa_nil)))))) (pg_name (i := 6) sc_law.nd rfl (Or.inl rfl)) (pss_cons (ps_if (pt_cmpR (op_neD hr.units) (pe_ownClr O__law_refused hg (hr.mono (by decide)) pass0 (pa_cons (pe_int) (pa_cons (pv 2) (pa_cons (pv 6) pa_nil)))) (pe_lst (pa_cons (pe_str) (pa_cons (pe_non) pa_nil))) (nomark _)) (pss_one (ps_ret (pe_bl))) (pss_nil))
      (pss_cons (ps_for PassesOwn.never rfl (pi_list (pe_lst (pa_cons (pe_int) (pa_cons (pe_int) pa_nil)))) (pg_name (i := 7) sc_law.nd rfl (Or.inl rfl)) (pss_one (ps_if (pt_cmpR (op_neD hr.units) (pe_ownClr O__law_refused hg (hr.mono (by decide)) pass0 (pa_cons (pv 7) (pa_cons (pv 6) (pa_cons (pe_non) pa_nil)))) (pe_lst (pa_cons (pe_str) (pa_cons (pe_str) pa_nil))) (nomark _)) (pss_one (ps_ret (pe_bl))) (pss_nil))))
      (pss_one (ps_for PassesOwn.never rfl (pi_list (pe_lst (pa_cons (pe_int) (pa_cons (pe_int) pa_nil)))) (pg_name (i := 7) sc_law.nd rfl (Or.inl rfl)) (pss_cons (ps_if (pt_cmpR (op_neD hr.units) (pe_ownClr O__law_refused hg (hr.mono (by decide)) pass0 (pa_cons (pv 7) (pa_cons (pv 6) (pa_cons (pe_non) pa_nil)))) (pe_lst (pa_cons (pe_str) (pa_cons (pe_str) pa_nil))) (nomark _)) (pss_one (ps_ret (pe_bl))) (pss_nil))
      (pss_one (ps_if (pt_cmpR (op_neD hr.units) (pe_ownClr O__law_refused hg (hr.mono (by decide)) pass0 (pa_cons (pv 7) (pa_cons (pv 4) (pa_cons (pv 6) pa_nil)))) (pe_lst (pa_cons (pe_str) (pa_cons (pe_str) pa_nil))) (nomark _)) (pss_one (ps_ret (pe_bl))) (pss_nil)))))))))
      (pss_cons (ps_for PassesOwn.never rfl (pi_list (pe_lst (pa_cons (pe_int) (pa_cons (pe_int) pa_nil)))) (pg_name (i := 7) sc_law.nd rfl (Or.inl rfl)) (pss_cons (ps_if (pt_cmpR (op_neD hr.units) (pe_ownClr O__law_refused hg (hr.mono (by decide)) pass0 (pa_cons (pv 7) (pa_cons (pv 4) (pa_cons (pe_newD O_Book1 (hr.mono (by decide)) passL (pa_cons (pe_op op_mod (pe_callTy call_int1 (by rfl) T.n_int (by decide +kernel) (pa_cons (pe_op op_add (pv 2) (pe_int)) pa_nil)) (pe_int)) pa_nil)) pa_nil)))) (pe_lst (pa_cons (pe_str) (pa_cons (pe_str) pa_nil))) (nomark _)) (pss_one (ps_ret (pe_bl))) (pss_nil))
      (pss_one (ps_if (pt_cmpR op_notN (pe_ownClr O__law_refused hg (hr.mono (by decide)) pass0 (pa_cons (pv 7) (pa_cons (pv 4) (pa_cons (pv 4) pa_nil)))) (pe_non) (nomark _)) (pss_one (ps_ret (pe_bl))) (pss_nil)))))
      (pss_cons (ps_for PassesOwn.never rfl (pi_list (pv 5)) (pg_name (i := 6) sc_law.nd rfl (Or.inl rfl)) (pss_cons (ps_if (pt_cmpR (op_neD hr.units) (pe_ownClr O__law_refused hg (hr.mono (by decide)) pass0 (pa_cons (pe_int) (pa_cons (pv 2) (pa_cons (pe_op op_cat (pv 3) (pe_lst (pa_cons (pv 6) (pa_cons (pe_non) pa_nil)))) pa_nil)))) (pe_lst (pa_cons (pe_str) (pa_cons (pe_callB call_len_seq (by rfl) T.n_len (by decide +kernel) (pa_cons (pv 3) pa_nil)) pa_nil))) (nomark _)) (pss_one (ps_ret (pe_bl))) (pss_nil))
      (pss_cons (ps_if (pt_cmpR (op_neD hr.units) (pe_ownClr O__law_refused hg (hr.mono (by decide)) pass0 (pa_cons (pe_int) (pa_cons (pv 4) (pa_cons (pe_op op_cat (pv 3) (pe_lst (pa_cons (pv 6) (pa_cons (pe_non) pa_nil)))) pa_nil)))) (pe_lst (pa_cons (pe_str) (pa_cons (pe_callB call_len_seq (by rfl) T.n_len (by decide +kernel) (pa_cons (pv 3) pa_nil)) pa_nil))) (nomark _)) (pss_one (ps_ret (pe_bl))) (pss_nil))
      (pss_one (ps_for PassesOwn.never rfl (pi_list (pe_lst (pa_cons (pe_int) (pa_cons (pe_int) pa_nil)))) (pg_name (i := 7) sc_law.nd rfl (Or.inl rfl)) (pss_one (ps_if (pt_cmpR (op_neD hr.units) (pe_ownClr O__law_refused hg (hr.mono (by decide)) pass0 (pa_cons (pv 7) (pa_cons (pv 4) (pa_cons (pv 6) pa_nil)))) (pe_lst (pa_cons (pe_str) (pa_cons (pe_callB (call_reprK rfl hg hu65) (by rfl) T.n_repr (by decide +kernel) (pa_cons (pv 6) pa_nil)) pa_nil))) (nomark _)) (pss_one (ps_ret (pe_bl))) (pss_nil))))))))
      (pss_one (ps_ret (pe_ownClr O__law_words_refused hg (hr.mono (by decide)) pass0 (pa_cons (pv 4) (pa_cons (pv 2) (pa_cons (pv 3) pa_nil)))))))))))))), ?_⟩
    refine ⟨_, rfl, sc, ns, 0, rfl, hsc, hl, by decide, fun st H1 e1 hst0 hst => ?_⟩
    refine ⟨_, rfl, st, 5, rfl, hst, by decide, by decide, fun p H2 p0 p5 hst2 x2 => ?_⟩
    obtain ⟨n, rfl⟩ := Int.eq_ofNat_of_zero_le p0
    have hn : n ≤ 4 := by omega
    refine ⟨_, rfl, _, rfl, st, 7, rfl, hst2, by decide, by decide, fun m H3 m0 m7 hst3 x3 => ?_⟩
    obtain ⟨m, rfl⟩ := Int.eq_ofNat_of_zero_le m0
    refine ⟨st, m, 5, rfl, hst3, by omega, by decide, by decide, fun D hs H4 nD hD lhs hhs hst4 x4 => ?_⟩
    have hhn : ∀ u, u ∈ hs → nameS u = true := fun u hu => five_ok u (hhs u hu)
    have h9 : hs.length ≤ 900 := by omega
    clear hst hst2 hst3 hst4 x2 x3 x4 hst0 e1 hhs nD m0 p0
    refine ⟨_, rfl, _, rfl, fun b dn hb0 hdn hne => mk_book hb0 hdn hne hn (.lst (SqL.of hD) str_dps) rfl hhn fun H5 e5 hB => ⟨rfl, ?_⟩⟩
    have g := good_run hn hhn
    generalize run n hs = s at hB g
    have hD5 := e5 _ _ hD
    clear hD hb0 hdn hne e5
    refine ⟨by show 1 ≤ sizeLine; decide, fun t1 h1 => ⟨by show 7 ≤ sizeLine; decide, fun l hl' => ?_⟩⟩
    have e1 := Ext.upd (o := .tup [V.str "a"]) h1
    have m1 : upd H5 t1 (.tup [V.str "a"]) t1 = some (.tup [V.str "a"]) := upd_same
    generalize upd H5 t1 (.tup [V.str "a"]) = H6 at e1 m1 hl' ⊢
    have el := Ext.upd (o := .lst [V.non, .int 5, .str "", .str "A", .str "abcdefghi", .ref t1, .str "a b"]) hl'
    have ml : upd H6 l (.lst [V.non, .int 5, .str "", .str "A", .str "abcdefghi", .ref t1, .str "a b"]) l = some (.lst [V.non, .int 5, .str "", .str "A", .str "abcdefghi", .ref t1, .str "a b"]) := upd_same
    generalize upd H6 l (.lst [V.non, .int 5, .str "", .str "A", .str "abcdefghi", .ref t1, .str "a b"]) = J at el ml ⊢
    have hdp : DpAll K J [V.non, .int 5, .str "", .str "A", .str "abcdefghi", .ref t1, .str "a b"] nm7 := .cons .non (.cons (.int _) (.cons (.str _) (.cons (.str _) (.cons (.str _) (.cons (.tup (SqT.of (el _ _ m1)) (.cons (.str _) .nil)) (.cons (.str _) .nil))))))
    replace hB := hB.ext (e1.trans el)
    have hD := (e1.trans el) _ _ hD5
    clear hD5 e1 m1 el hl' h1
    generalize [V.non, .int 5, .str "", .str "A", .str "abcdefghi", .ref t1, .str "a b"] = ys at ml hdp ⊢
    refine ⟨_, rfl, by show 5 ≤ sizeLine; decide, fun l1 h1 => ?_⟩
    have e1 := Ext.upd (o := .lst pl5) h1
    have m1 : upd J l1 (.lst pl5) l1 = some (.lst pl5) := upd_same
    refine ⟨l1, rfl, ⟨pl5, SqL.of m1⟩, ?_⟩
    refine for_list (xs := pl5) (fun i σ' H' => ∃ o6, σ' = [some (.ref sc), some (.ref st), some (.int (n : Int)), some (.ref D), some (.ref b), some (.ref l), o6, none] ∧ Ext (upd J l1 (.lst pl5)) H') ⟨_, rfl, Ext.rfl'⟩ (fun i σ' H' _ pv => by obtain ⟨_, _, e⟩ := pv; exact SqL.of (e _ _ m1)) (fun i v σ' H' hxi pv => ?_) (fun σ' H' pv => ?_)
    · obtain ⟨o6, rfl, e⟩ := pv
      obtain ⟨d, hd, hb⟩ := pl_at (K := K) hxi
      refine ⟨_, rfl, 0, v, .non, .part "places", rfl, .inl ⟨rfl, .inl ⟨d, hd _, hb, rfl, rfl⟩⟩, fun t2 H2 e2 m2 => ⟨by show 2 ≤ sizeLine; decide, fun t3 h3 => ?_⟩⟩
      have e3 := Ext.upd (o := .lst [V.str "part", .str "places"]) h3
      refine ne_same (e3 _ _ m2) upd_same (fl_two fl_pt fl_pls) ⟨_, rfl, iteF ?_⟩
      exact ⟨_, rfl, (e.trans e2).trans e3⟩
    obtain ⟨o6, rfl, e⟩ := pv
    have e0 := e1.trans e
    clear e1 m1 e h1
    refine fun a ha => ⟨by show 4 ≤ sizeLine; decide, fun l2 h2 => ?_⟩
    have ea := Ext.upd (o := .dK []) ha
    have ma : upd H' a (.dK []) a = some (.dK []) := upd_same
    generalize upd H' a (.dK []) = H8 at ea ma h2 ⊢
    have e2 := Ext.upd (o := .lst [V.non, .int 5, .str "a", .ref a]) h2
    have m2 : upd H8 l2 (.lst [V.non, .int 5, .str "a", .ref a]) l2 = some (.lst [V.non, .int 5, .str "a", .ref a]) := upd_same
    have ma9 := e2 _ _ ma
    replace e0 := (e0.trans ea).trans e2
    generalize upd H8 l2 (.lst [V.non, .int 5, .str "a", .ref a]) = H9 at e2 m2 ma9 e0 ⊢
    clear ea e2 ma h2 ha
    refine ⟨l2, rfl, ⟨_, SqL.of m2⟩, ?_⟩
    refine for_list (xs := [V.non, .int 5, .str "a", .ref a]) (fun i σ' H' => ∃ o6 o7, σ' = [some (.ref sc), some (.ref st), some (.int (n : Int)), some (.ref D), some (.ref b), some (.ref l), o6, o7] ∧ Ext H9 H') ⟨_, _, rfl, Ext.rfl'⟩ (fun i σ' H' _ pv => by obtain ⟨_, _, _, e⟩ := pv; exact SqL.of (e _ _ m2)) (fun i v σ' H' hxi pv => ?_) (fun σ' H' pv => ?_)
    · obtain ⟨o6', o7', rfl, e⟩ := pv
      have ho := odd_at ma9 hxi
      obtain ⟨d, hd, hq⟩ := (ho.ext e).thg (K := K)
      have hB' := hB.ext (e0.trans e)
      refine ⟨_, rfl, _, rfl, 0, .int (n : Int), v, .head .non, rfl, .inl ⟨rfl, .inr ⟨n, .non, rfl, hn, .inl ⟨d, hd, hq, rfl⟩, rfl⟩⟩, fun t3 H3 e3 m3 => ⟨by show 2 ≤ sizeLine; decide, fun t4 h4 => ?_⟩⟩
      have e4 := Ext.upd (o := .lst [V.str "head", .non]) h4
      refine ne_same (e4 _ _ m3) upd_same (fl_two fl_hd fl_non) ⟨_, rfl, iteF ?_⟩
      have e34 := e3.trans e4
      generalize upd H3 t4 (.lst [V.str "head", .non]) = H4 at e4 e34 ⊢
      replace hd := hd.ext e34
      replace hB' := hB'.ext e34
      clear e3 e4 m3 h4
      refine ⟨by show 2 ≤ sizeLine; decide, fun l6 hl6 => ?_⟩
      have el6 := Ext.upd (o := .lst [V.int 6, .int 7]) hl6
      have ml6 : upd H4 l6 (.lst [V.int 6, .int 7]) l6 = some (.lst [V.int 6, .int 7]) := upd_same
      generalize upd H4 l6 (.lst [V.int 6, .int 7]) = Gl6 at el6 ml6 ⊢
      refine ⟨l6, rfl, ⟨_, SqL.of ml6⟩, ?_⟩
      refine for_list (xs := [V.int 6, .int 7]) (fun i σ' H' => ∃ o7, σ' = [some (.ref sc), some (.ref st), some (.int (n : Int)), some (.ref D), some (.ref b), some (.ref l), some v, o7] ∧ Ext Gl6 H') ⟨_, rfl, Ext.rfl'⟩ (fun i σ' H' _ pv => by obtain ⟨_, _, e⟩ := pv; exact SqL.of (e _ _ ml6)) (fun i dv σ' H' hxi pv => ?_) (fun σ' H' pv => ?_)
      · obtain ⟨o7, rfl, ed⟩ := pv
        obtain ⟨dr, rfl, hdr⟩ := two_at hxi
        have hd' := (hd.ext el6).ext ed
        refine ⟨_, rfl, _, rfl, dr, v, .non, .part "book", rfl, asks_book hdr hd', fun t5 H5 e5 m5 => ⟨by show 2 ≤ sizeLine; decide, fun t6 h6 => ?_⟩⟩
        have e6 := Ext.upd (o := .lst [V.str "part", .str "book"]) h6
        refine ne_same (e6 _ _ m5) upd_same (fl_two fl_pt fl_bk) ⟨_, rfl, iteF ?_⟩
        exact ⟨_, rfl, (ed.trans e5).trans e6⟩
      obtain ⟨o7, rfl, ed⟩ := pv
      have e6 := el6.trans ed
      replace hd := hd.ext e6
      replace hB' := hB'.ext e6
      clear ml6 hl6
      refine ⟨by show 2 ≤ sizeLine; decide, fun l8 hl8 => ?_⟩
      have el8 := Ext.upd (o := .lst [V.int 8, .int 9]) hl8
      have ml8 : upd H' l8 (.lst [V.int 8, .int 9]) l8 = some (.lst [V.int 8, .int 9]) := upd_same
      generalize upd H' l8 (.lst [V.int 8, .int 9]) = Gl8 at el8 ml8 ⊢
      refine ⟨l8, rfl, ⟨_, SqL.of ml8⟩, ?_⟩
      refine for_list (xs := [V.int 8, .int 9]) (fun i σ' H' => ∃ o7, σ' = [some (.ref sc), some (.ref st), some (.int (n : Int)), some (.ref D), some (.ref b), some (.ref l), some v, o7] ∧ Ext Gl8 H') ⟨_, rfl, Ext.rfl'⟩ (fun i σ' H' _ pv => by obtain ⟨_, _, e⟩ := pv; exact SqL.of (e _ _ ml8)) (fun i dv σ' H' hxi pv => ?_) (fun σ' H' pv => ?_)
      · obtain ⟨o7, rfl, ed8⟩ := pv
        obtain ⟨dr, rfl, hdr⟩ := two_at hxi
        have hd' := (hd.ext el8).ext ed8
        have hB8 := (hB'.ext el8).ext ed8
        refine ⟨_, rfl, _, rfl, dr, v, .non, .part "one", rfl, asks_one hdr hd', fun t5 H5 e5 m5 => ⟨by show 2 ≤ sizeLine; decide, fun t6 h6 => ?_⟩⟩
        have e6' := Ext.upd (o := .lst [V.str "part", .str "one"]) h6
        refine ne_same (e6' _ _ m5) upd_same (fl_two fl_pt fl_one) ⟨_, rfl, iteF ?_⟩
        have e56 := e5.trans e6'
        refine ⟨_, rfl, _, rfl, _, rfl, dr, .ref b, v, .part "other", rfl, asks_other hdr (hB8.ext e56) g (hd'.ext e56), fun t7 H7 e7 m7 => ⟨by show 2 ≤ sizeLine; decide, fun t8 h8 => ?_⟩⟩
        have e8 := Ext.upd (o := .lst [V.str "part", .str "other"]) h8
        refine ne_same (e8 _ _ m7) upd_same (fl_two fl_pt fl_oth) ⟨_, rfl, iteF ?_⟩
        exact ⟨_, rfl, ((ed8.trans e56).trans e7).trans e8⟩
      obtain ⟨o8, rfl, ed8⟩ := pv
      exact ⟨_, _, rfl, (((e.trans e34).trans e6).trans el8).trans ed8⟩
    obtain ⟨o6', o7', rfl, e⟩ := pv
    replace e0 := e0.trans e
    clear e m2 ma9
    refine ⟨by show 2 ≤ sizeLine; decide, fun l3 hl3 => ?_⟩
    have el3 := Ext.upd (o := .lst [V.int 8, .int 9]) hl3
    have ml3 : upd H' l3 (.lst [V.int 8, .int 9]) l3 = some (.lst [V.int 8, .int 9]) := upd_same
    generalize upd H' l3 (.lst [V.int 8, .int 9]) = Gl3 at el3 ml3 ⊢
    refine ⟨l3, rfl, ⟨_, SqL.of ml3⟩, ?_⟩
    refine for_list (xs := [V.int 8, .int 9]) (fun i σ' H' => ∃ o7, σ' = [some (.ref sc), some (.ref st), some (.int (n : Int)), some (.ref D), some (.ref b), some (.ref l), o6', o7] ∧ Ext Gl3 H') ⟨_, rfl, Ext.rfl'⟩ (fun i σ' H' _ pv => by obtain ⟨_, _, e⟩ := pv; exact SqL.of (e _ _ ml3)) (fun i dv σ' H' hxi pv => ?_) (fun σ' H' pv => ?_)
    · obtain ⟨o7, rfl, edl3⟩ := pv
      obtain ⟨dr, rfl, hdr⟩ := two_at hxi
      have ez := (e0.trans el3).trans edl3
      obtain ⟨k, hk, hk4, hnk⟩ : ∃ k : Nat, ((n : Int) + 1) % 5 = (k : Int) ∧ k ≤ 4 ∧ n ≠ k := ⟨(n + 1) % 5, by omega, by omega, by omega⟩
      have hB3 := hB.ext ez
      refine ⟨_, rfl, _, rfl, _, rfl, _, _, rfl, rfl, .inl ⟨_, rfl, _, _, rfl, rfl, by show (0 : Int) < 5; decide, fun c dn hc hdn hne => mk_bookI (us := []) hk hc hdn hne hk4 (.tup (T.t0 _) .nil) rfl (fun _ h => nomatch h) fun Hm em hC => ⟨rfl, ?_⟩⟩⟩
      refine ⟨dr, .ref b, .ref c, .part "other", rfl, asks_more hdr (hB3.ext em) g hC hnk, fun t5 H5 e5 m5 => ⟨by show 2 ≤ sizeLine; decide, fun t6 h6 => ?_⟩⟩
      have e6 := Ext.upd (o := .lst [V.str "part", .str "other"]) h6
      refine ne_same (e6 _ _ m5) upd_same (fl_two fl_pt fl_oth) ⟨_, rfl, iteF ?_⟩
      have em6 := (em.trans e5).trans e6
      refine ⟨_, rfl, _, rfl, _, rfl, dr, .ref b, .ref b, .ok, rfl, asks_same hdr (hB3.ext em6) g, fun H7 e7 => ⟨rfl, _, rfl, iteN (by decide) ?_⟩⟩
      exact ⟨_, rfl, (edl3.trans em6).trans e7⟩
    obtain ⟨o7, rfl, e⟩ := pv
    replace e0 := (e0.trans el3).trans e
    have hB0 := hB.ext e0
    have hD0 := e0 _ _ hD
    have ml0 := e0 _ _ ml
    have hdp0 := dps_ext e0 _ _ hdp
    clear e ml3 hl3 el3
    refine ⟨_, rfl, l, rfl, ⟨_, SqL.of ml0⟩, ?_⟩
    refine for_list (xs := ys) (fun i σ' Hz => ∃ o6 o7, σ' = [some (.ref sc), some (.ref st), some (.int (n : Int)), some (.ref D), some (.ref b), some (.ref l), o6, o7] ∧ Ext H' Hz) ⟨_, _, rfl, Ext.rfl'⟩ (fun i σ' Hz _ pv => by obtain ⟨_, _, _, e⟩ := pv; exact SqL.of (e _ _ ml0)) (fun i v σ' Hz hxi pv => ?_) (fun σ' Hz pv => ?_)
    · obtain ⟨o6', o7', rfl, e⟩ := pv
      obtain ⟨d, hdi, hd⟩ := dps_get (dps_ext e _ _ hdp0) hxi
      have hmem := List.mem_of_getElem? hdi
      obtain ⟨hno, c1, c2, c3, c4, c5⟩ := nm7_no d hmem
      have hsm := nm7_sm d hmem
      have hB1 := hB0.ext e
      have hD1 := e _ _ hD0
      refine ⟨_, rfl, _, rfl, _, rfl, by show 2 ≤ sizeLine; decide, fun l1 h1 => ?_⟩
      have e1 := Ext.upd (o := .lst [v, .non]) h1
      refine ⟨D, l1, _, _, rfl, rfl, e1 _ _ hD1, upd_same, by rw [List.length_map]; show hs.length + 2 ≤ _; exact Nat.le_of_lt (small_sz (by omega)), fun l2 h2 => ?_⟩
      have e2 := Ext.upd (o := .lst (hs.map V.str ++ [v, .non])) h2
      have e12 := e1.trans e2
      have hh := hds_cat (K := K) (H := upd (upd Hz l1 (.lst [v, .non])) l2 (.lst (hs.map V.str ++ [v, .non]))) upd_same (dp_ext e12 _ _ hd) hno hsm hhn h9
      refine ⟨0, .int (n : Int), .ref l2, .head (.int ((hs.map V.str).length : Nat)), rfl, .inl ⟨rfl, .inr ⟨n, _, rfl, hn, hh, rfl⟩⟩, fun t3 H3 e3 m3 => ?_⟩
      refine ⟨_, rfl, D, _, rfl, .inl (SqL.of (e3 _ _ (e12 _ _ hD1))), by show 2 ≤ sizeLine; decide, fun t4 h4 => ?_⟩
      have e4 := Ext.upd (o := .lst [V.str "head", .int ((hs.map V.str).length : Nat)]) h4
      refine ne_same (e4 _ _ m3) upd_same (fl_two fl_hd (fl_int _)) ⟨_, rfl, iteF ?_⟩
      have e04 := (e12.trans e3).trans e4
      generalize upd H3 t4 (.lst [V.str "head", .int ((hs.map V.str).length : Nat)]) = H4 at e04 e4 ⊢
      have hB4 := hB1.ext e04
      have hD4 := e04 _ _ hD1
      have hd4 := dp_ext e04 _ _ hd
      clear e1 e2 e12 e3 e4 m3 h1 h2 h4 hh
      refine ⟨_, rfl, _, rfl, _, rfl, by show 2 ≤ sizeLine; decide, fun l5 h5 => ?_⟩
      have e5 := Ext.upd (o := .lst [v, .non]) h5
      refine ⟨D, l5, _, _, rfl, rfl, e5 _ _ hD4, upd_same, by rw [List.length_map]; show hs.length + 2 ≤ _; exact Nat.le_of_lt (small_sz (by omega)), fun l6 h6 => ?_⟩
      have e6 := Ext.upd (o := .lst (hs.map V.str ++ [v, .non])) h6
      have e56 := e5.trans e6
      have hh := hds_cat (K := K) (H := upd (upd H4 l5 (.lst [v, .non])) l6 (.lst (hs.map V.str ++ [v, .non]))) upd_same (dp_ext e56 _ _ hd4) hno hsm hhn h9
      refine ⟨6, .ref b, .ref l6, .head (.int ((hs.map V.str).length : Nat)), rfl, .inr (.inr (.inr (.inl ⟨rfl, .inr ⟨b, n, s, _, rfl, hB4.ext e56, g, hh, rfl⟩⟩))), fun t7 H7 e7 m7 => ?_⟩
      refine ⟨_, rfl, D, _, rfl, .inl (SqL.of (e7 _ _ (e56 _ _ hD4))), by show 2 ≤ sizeLine; decide, fun t8 h8 => ?_⟩
      have e8 := Ext.upd (o := .lst [V.str "head", .int ((hs.map V.str).length : Nat)]) h8
      refine ne_same (e8 _ _ m7) upd_same (fl_two fl_hd (fl_int _)) ⟨_, rfl, iteF ?_⟩
      have e48 := (e56.trans e7).trans e8
      generalize upd H7 t8 (.lst [V.str "head", .int ((hs.map V.str).length : Nat)]) = H8 at e48 e8 ⊢
      have hB8 := hB4.ext e48
      have hd8 := dp_ext e48 _ _ hd4
      clear e5 e6 e56 e7 e8 m7 h5 h6 h8 hh
      refine ⟨by show 2 ≤ sizeLine; decide, fun l9 hl9 => ?_⟩
      have el9 := Ext.upd (o := .lst [V.int 1, .int 2]) hl9
      have ml9 : upd H8 l9 (.lst [V.int 1, .int 2]) l9 = some (.lst [V.int 1, .int 2]) := upd_same
      generalize upd H8 l9 (.lst [V.int 1, .int 2]) = Gl9 at el9 ml9 ⊢
      refine ⟨l9, rfl, ⟨_, SqL.of ml9⟩, ?_⟩
      refine for_list (xs := [V.int 1, .int 2]) (fun i σ' H' => ∃ o7, σ' = [some (.ref sc), some (.ref st), some (.int (n : Int)), some (.ref D), some (.ref b), some (.ref l), some v, o7] ∧ Ext Gl9 H') ⟨_, rfl, Ext.rfl'⟩ (fun i σ' H' _ pv => by obtain ⟨_, _, e⟩ := pv; exact SqL.of (e _ _ ml9)) (fun i dv σ' H' hxi pv => ?_) (fun σ' H' pv => ?_)
      · obtain ⟨o7, rfl, edl9⟩ := pv
        obtain ⟨dr, rfl, hdr⟩ := two_at hxi
        have hB9 := (hB8.ext el9).ext edl9
        have hd9 := dp_ext (el9.trans edl9) _ _ hd8
        refine ⟨_, rfl, _, rfl, _, rfl, dr, .ref b, v, .name v, rfl, .inr (.inl ⟨hdr, b, n, s, d, rfl, hB9, g, hd9, hsm, hno, rfl⟩), d, hd9, ⟨c1, c2, c3, c4⟩, fun t5 H5 e5 m5 => ?_⟩
        refine ⟨_, rfl, v, d, rfl, dp_ext e5 _ _ hd9, c1, c2, c3, c4, by show 2 ≤ sizeLine; decide, fun t6 h6 => ?_⟩
        have e6 := Ext.upd (o := .lst [V.str "name", .str d.shown]) h6
        refine ne_same (e6 _ _ m5) upd_same (fl_two fl_nm c5) ⟨_, rfl, iteF ?_⟩
        exact ⟨_, rfl, (edl9.trans e5).trans e6⟩
      obtain ⟨o8, rfl, ed9⟩ := pv
      exact ⟨_, _, rfl, (((e.trans e04).trans e48).trans el9).trans ed9⟩
    obtain ⟨o6', o7', rfl, e⟩ := pv
    exact ⟨_, rfl, _, rfl, _, rfl, b, n, s, _, _, rfl, hB0.ext e, g, fun H' _ => q H'⟩
end
end K02

set_option Elab.async false
set_option maxRecDepth 100000
set_option maxHeartbeats 4000000
namespace K03
open PySem PySem.Spec PyProof.Rows L2 L2H K02
section
variable {P : Program} {w : World} {K : PySem.W.Frag} {mg : Str → Option Value} {base : Heap} {A : Ad}
theorem kit_ref {B C : Addr} {b : Bool} (i : PySem.W.isClsIn K C = true) (t : PySem.W.typeIn K (.ref C) = some (.type "type")) (s : PySem.W.subIn K (.ref B) (.ref C) = some b) (ss : PySem.W.subIn K (.ref B) (.ref B) = some true) : PySem.W.kitOne K (.ref B) (.ref C) = some b := by
  by_cases h : B = C
  · subst h
    rw [ss] at s
    cases s
    exact if_pos (beq_self_eq_true _)
  · have e : ((PySem.W.clsIn K C).isSome && PySem.W.typeIn K (.ref C) == some (.type "type")) = true := by
      have h1 : (PySem.W.clsIn K C).isSome = true := i
      rw [h1, t]
      rfl
    show (if (Value.ref B == Value.ref C) = true then some true else if ((PySem.W.clsIn K C).isSome && PySem.W.typeIn K (.ref C) == some (.type "type")) = true then PySem.W.subIn K (.ref B) (.ref C) else none) = some b
    rw [if_pos e]
    have hne : ¬ ((Value.ref B == Value.ref C) = true) := fun z => by
      have z' := eq_of_beq z
      injection z' with z'
      exact h z'
    rw [if_neg hne]
    exact s
theorem exm_ref {B C : Addr} {b : Bool} (x : PySem.W.subIn K (.ref C) (.type "BaseException") = some true) (i : PySem.W.isClsIn K C = true) (t : PySem.W.typeIn K (.ref C) = some (.type "type")) (s : PySem.W.subIn K (.ref B) (.ref C) = some b) : PySem.W.exmOne K (.ref B) (.ref C) = some b := by
  unfold PySem.W.exmOne PySem.W.kitCls
  have i' : (PySem.W.clsIn K C).isSome = true := i
  rw [x]
  dsimp only
  rw [i', t, s]
  rfl
theorem ve_one {W : Addr} : PySem.HandSPX.refsVE [.ref W, .type "ValueError", .type "Exception", .type "BaseException", .type "object"] = true := by
  show PySem.HandSPX.refsVE [.type "ValueError", .type "Exception", .type "BaseException", .type "object"] = true
  decide +kernel
theorem law_ok (T : Txt K mg A) (D_is_integer : DefAt K mg "is_integer" s_is_integer pm_is_integer) (D_is_between : DefAt K mg "is_between" s_is_between pm_is_between) (D_is_index : DefAt K mg "is_index" s_is_index pm_is_index) (D_is_list : DefAt K mg "is_list" s_is_list pm_is_list) (D_is_name : DefAt K mg "is_name" s_is_name pm_is_name) (D_is_tuple_of : DefAt K mg "is_tuple_of" s_is_tuple_of pm_is_tuple_of) (D_is_told_by : DefAt K mg "is_told_by" s_is_told_by pm_is_told_by) (D_check_heads : DefAt K mg "check_heads" s_check_heads pm_check_heads) (D_is_word : DefAt K mg "is_word" s_is_word pm_is_word) (D_check_places : DefAt K mg "check_places" s_check_places pm_check_places) (D_next_of : DefAt K mg "next_of" s_next_of pm_next_of) (D_slots_behind : DefAt K mg "slots_behind" s_slots_behind pm_slots_behind) (D_read_head : DefAt K mg "read_head" s_read_head pm_read_head) (D_check_book : DefAt K mg "check_book" s_check_book pm_check_book) (D_write_heads : DefAt K mg "write_heads" s_write_heads pm_write_heads) (D_read_words : DefAt K mg "read_words" s_read_words pm_read_words) (D_check_pair : DefAt K mg "check_pair" s_check_pair pm_check_pair) (D_parting_words : DefAt K mg "parting_words" s_parting_words pm_parting_words) (D_overwriting_words : DefAt K mg "overwriting_words" s_overwriting_words pm_overwriting_words) (D_is_parting : DefAt K mg "is_parting" s_is_parting pm_is_parting) (D__law_pool : DefAt K mg "_law_pool" s__law_pool pm__law_pool) (D__law_draw : DefAt K mg "_law_draw" s__law_draw pm__law_draw) (D__law_pick : DefAt K mg "_law_pick" s__law_pick pm__law_pick) (D__law_heads : DefAt K mg "_law_heads" s__law_heads pm__law_heads) (D__law_called : DefAt K mg "_law_called" s__law_called pm__law_called) (D__law_refused : DefAt K mg "_law_refused" s__law_refused pm__law_refused) (D__law_words_refused : DefAt K mg "_law_words_refused" s__law_words_refused pm__law_words_refused)
    (M_Book_held : MethAt K A.Book "held" "Book.held" s_Book_held pm_Book_held) (M_Book_oldest_first : MethAt K A.Book "oldest_first" "Book.oldest_first" s_Book_oldest_first pm_Book_oldest_first) (M_Book_place_of : MethAt K A.Book "place_of" "Book.place_of" s_Book_place_of pm_Book_place_of) (M_Book_used : MethAt K A.Book "used" "Book.used" s_Book_used pm_Book_used) (M_Book_word_for : MethAt K A.Book "word_for" "Book.word_for" s_Book_word_for pm_Book_word_for) (M_Book_head_for : MethAt K A.Book "head_for" "Book.head_for" s_Book_head_for pm_Book_head_for) (M_Book_contains : MethAt K A.Book "__contains__" "Book.__contains__" s_Book_contains pm_Book_contains) (M_Book_len : MethAt K A.Book "__len__" "Book.__len__" s_Book_len pm_Book_len) (M_Book_eq : MethAt K A.Book "__eq__" "Book.__eq__" s_Book_eq pm_Book_eq)
    {fi : Addr} {fdi : FuncData} (FI : FunD K "__init__" "Book.__init__" (defArgs s_Book_init) (defBody s_Book_init) (defScope s_Book_init) [.ref A.T0] [] fi fdi) (MI : Mk K A.Book fi) (B4 : Binds K fdi pm_Book_init []) {d3 : List Value} (V3 : Vals [.ref A.T0] d3) (B3 : Binds K fdi pm_Book_init d3)
    {f : Addr} {fd : FuncData} (F : Fun K "law" "law" s_law f fd) : FnClr P w K mg base CX0 13 f fd pm_law (spLaw K) := by
  have X_BadPart : XCls P w K mg base "BadPart" "part" A.BadPart := T.BadPart.cls fun _ _ F => ok_xp F T
  have X_BadName : XCls P w K mg base "BadName" "name" A.BadName := T.BadName.cls fun _ _ F => ok_xn F T
  have X_BadHead : XCls P w K mg base "BadHead" "index" A.BadHead := T.BadHead.cls fun _ _ F => ok_xh F T
  have X_BadWord : XCls P w K mg base "BadWord" "word" A.BadWord := T.BadWord.cls fun _ _ F => ok_x_BadWord F T
  have X_BadWords : XCls P w K mg base "BadWords" "index" A.BadWords := T.BadWords.cls fun _ _ F => ok_x_BadWords F T

  have O_is_integer : Own P w K mg base CX0 "is_integer" 1 pm_is_integer (spInteger K) := D_is_integer.own fun f fd F => ok_integer F T
  have O_is_between : Own P w K mg base CX0 "is_between" 2 pm_is_between (spBetween K) := D_is_between.own fun f fd F => ok_between F O_is_integer
  have O_is_index : Own P w K mg base CX0 "is_index" 3 pm_is_index (spIndex K) := D_is_index.own fun f fd F => ok_index F O_is_between
  have O_is_list : Own P w K mg base CX0 "is_list" 1 pm_is_list (spIsList K) := D_is_list.own fun f fd F => ok_isList F T
  have O_is_tuple_of : Own P w K mg base CX0 "is_tuple_of" 1 pm_is_tuple_of (spTupleOf K) := D_is_tuple_of.own fun f fd F => ok_tupleOf F T
  have O_is_name : Own P w K mg base CX0 "is_name" 1 pm_is_name (spName K) := D_is_name.own fun f fd F => ok_name F T
  have O_is_told_by : Own P w K mg base CX0 "is_told_by" 2 pm_is_told_by (spTold K) := D_is_told_by.own fun f fd F => ok_told F T O_is_tuple_of
  have O_is_word : Own P w K mg base CX0 "is_word" 4 pm_is_word (spWord K) := D_is_word.own fun f fd F => ok_word F T O_is_told_by O_is_index O_is_name
  have O_check_heads : Own P w K mg base (L2.CX P w) "check_heads" 3 pm_check_heads (spHeads K A) := D_check_heads.own fun f fd F => ok_heads F T O_is_list O_is_name X_BadHead
  have O_check_places : Own P w K mg base (L2.CX P w) "check_places" 4 pm_check_places (spPlaces K A) := D_check_places.own fun f fd F => ok_places F T O_is_between X_BadPart
  have O_next_of : Own P w K mg base CX0 "next_of" 1 pm_next_of (spNext K) := D_next_of.own fun f fd F => ok_next F T
  have O_slots_behind : Own P w K mg base CX0 "slots_behind" 2 pm_slots_behind (spBehind K) := D_slots_behind.own fun f fd F => ok_behind F T O_next_of
  have GI_Book : FnOk P w K mg base (L2.CX P w) 5 fi fdi pm_Book_init (spBookInit K A) := ok_bookInit FI T O_check_places O_check_heads O_slots_behind
  have O_Book : OwnC P w K mg base (L2.CX P w) "Book" A.Book 5 pm_Book_init (spBookInit K A) := ⟨fi, fdi, GI_Book, MI, T.Book.gC, B4⟩
  have O_Book1 : OwnCD P w K mg base (L2.CX P w) "Book" A.Book 5 pm_Book_init (spBookInit K A) [.ref A.T0] := ⟨fi, fdi, d3, GI_Book, MI, T.Book.gC, B3, V3⟩
  have O_Book_held : OwnM P w K mg base CX0 A.Book "held" 1 pm_Book_held (spHeld K A) := M_Book_held.own fun f fd F => ok_held F T
  have O_Book_oldest_first : OwnM P w K mg base CX0 A.Book "oldest_first" 1 pm_Book_oldest_first (spOldest K A) := M_Book_oldest_first.own fun f fd F => ok_oldest F T
  have O_Book_contains : OwnM P w K mg base CX0 A.Book "__contains__" 1 pm_Book_contains (spIn K A) := M_Book_contains.own fun f fd F => ok_in F T
  have O_Book_place_of : OwnM P w K mg base CX0 A.Book "place_of" 2 pm_Book_place_of (spPlaceOf K A) := M_Book_place_of.own fun f fd F => ok_placeOf F T O_Book_contains
  have O_Book_len : OwnM P w K mg base CX0 A.Book "__len__" 1 pm_Book_len (spLen K A) := M_Book_len.own fun f fd F => ok_len F T
  have O_Book_eq : OwnM P w K mg base CX0 A.Book "__eq__" 1 pm_Book_eq (spEq K A) := M_Book_eq.own fun f fd F => ok_eq F T
  have O_Book_used : OwnM P w K mg base (L2.CX P w) A.Book "used" 7 pm_Book_used (spUsed K A) := M_Book_used.own fun f fd F => ok_used F T O_is_name X_BadName O_Book
  have O_Book_word_for : OwnM P w K mg base (L2.CX P w) A.Book "word_for" 4 pm_Book_word_for (spWordFor K A) := M_Book_word_for.own fun f fd F => ok_wordFor F T O_is_name X_BadName O_Book_place_of
  have O_read_head : Own P w K mg base CX0 "read_head" 5 pm_read_head (spReadHead K A) := D_read_head.own fun f fd F => ok_readHead F T O_is_word O_Book_held
  have O_Book_head_for : OwnM P w K mg base (L2.CX P w) A.Book "head_for" 6 pm_Book_head_for (spHeadFor K A) := M_Book_head_for.own fun f fd F => ok_headFor F T O_read_head X_BadWord
  have O_check_book : Own P w K mg base (L2.CX P w) "check_book" 3 pm_check_book (spCheckBook K A) := D_check_book.own fun f fd F => ok_checkBook F T X_BadPart
  have O_write_heads : Own P w K mg base (L2.CX P w) "write_heads" 8 pm_write_heads (spWrite K A) := D_write_heads.own fun f fd F => ok_write F T O_check_book O_check_heads O_Book_word_for O_Book_used
  have O_read_words : Own P w K mg base (L2.CX P w) "read_words" 8 pm_read_words (spRead K A) := D_read_words.own fun f fd F => ok_read F T O_check_book O_is_list O_read_head O_Book_used X_BadWords
  have O__law_pool : Own P w K mg base CX0 "_law_pool" 1 pm__law_pool (spPool K) := D__law_pool.own fun f fd F => ok_pool F T
  have O__law_draw : Own P w K mg base CX0 "_law_draw" 1 pm__law_draw spDraw := D__law_draw.own fun f fd F => ok_draw F T
  have O__law_pick : Own P w K mg base CX0 "_law_pick" 2 pm__law_pick spPick := D__law_pick.own fun f fd F => ok_pick F T O__law_draw
  have O__law_heads : Own P w K mg base CX0 "_law_heads" 3 pm__law_heads spLHeads := D__law_heads.own fun f fd F => ok_lheads F T O__law_pick
  have O_check_pair : Own P w K mg base (L2.CX P w) "check_pair" 3 pm_check_pair (spPair K A) := D_check_pair.own fun f fd F => ok_pair F T X_BadPart
  have O_overwriting_words : Own P w K mg base CX0 "overwriting_words" 3 pm_overwriting_words (spOver K A) := D_overwriting_words.own fun f fd F => ok_over F T O_Book_contains O_Book_len
  have O_parting_words : Own P w K mg base (L2.CX P w) "parting_words" 5 pm_parting_words (spPartW K A) := D_parting_words.own fun f fd F => ok_partW F T O_check_pair O_Book_held O_Book_oldest_first O_overwriting_words
  have O_is_parting : Own P w K mg base (L2.CX P w) "is_parting" 8 pm_is_parting (spIsPart K A) := D_is_parting.own fun f fd F => ok_isPart F T O_check_pair O_read_head O_Book_used
  have O_check_heads_1 : Own P w K mg base (L2.CX P w) "check_heads" 3 pm_check_heads (spHeadsX K A) := D_check_heads.own fun f fd F => ok_headsX F T O_is_list O_is_name X_BadHead
  have O_check_book_1 : Own P w K mg base (L2.CX P w) "check_book" 3 pm_check_book (spCheckBookX K A) := D_check_book.own fun f fd F => ok_checkBookX F T X_BadPart
  have O_write_heads_1 : Own P w K mg base (L2.CX P w) "write_heads" 8 pm_write_heads (spWriteX K A) := D_write_heads.own fun f fd F => ok_writeX F T O_check_book_1 O_check_heads O_Book_word_for O_Book_used
  have O_write_heads_2 : Own P w K mg base (L2.CX P w) "write_heads" 8 pm_write_heads (spWriteY K A) := D_write_heads.own fun f fd F => ok_writeY F T O_check_book O_check_heads_1 O_Book_word_for O_Book_used
  have O_read_words_1 : Own P w K mg base (L2.CX P w) "read_words" 8 pm_read_words (spReadX K A) := D_read_words.own fun f fd F => ok_readX F T O_check_book_1 O_is_list O_read_head O_Book_used X_BadWords
  have O_read_words_2 : Own P w K mg base (L2.CX P w) "read_words" 8 pm_read_words (spReadY K A) := D_read_words.own fun f fd F => ok_readY F T O_check_book O_is_list O_read_head O_Book_used X_BadWords
  have O_check_pair_1 : Own P w K mg base (L2.CX P w) "check_pair" 3 pm_check_pair (spPairX K A) := D_check_pair.own fun f fd F => ok_pairX F T X_BadPart
  have O_parting_words_1 : Own P w K mg base (L2.CX P w) "parting_words" 5 pm_parting_words (spPartWX K A) := D_parting_words.own fun f fd F => ok_partWX F T O_check_pair_1 O_Book_held O_Book_oldest_first O_overwriting_words
  have O_is_parting_1 : Own P w K mg base (L2.CX P w) "is_parting" 8 pm_is_parting (spIsPartX K A) := D_is_parting.own fun f fd F => ok_isPartX F T O_check_pair_1 O_read_head O_Book_used
  have O_write_heads_3 : Own P w K mg base (L2.CX P w) "write_heads" 8 pm_write_heads (spWriteA K A) := D_write_heads.own fun f fd F => ok_writeA F T O_check_book O_check_heads O_check_book_1 O_check_heads_1 O_Book_word_for O_Book_used
  have O_read_words_3 : Own P w K mg base (L2.CX P w) "read_words" 8 pm_read_words (spReadA K A) := D_read_words.own fun f fd F => ok_readA F T O_check_book O_check_book_1 O_is_list O_read_head O_Book_used X_BadWords
  have O_parting_words_2 : Own P w K mg base (L2.CX P w) "parting_words" 5 pm_parting_words (spPartWA K A) := D_parting_words.own fun f fd F => ok_partWA F T O_check_pair O_check_pair_1 O_Book_held O_Book_oldest_first O_overwriting_words
  have O_is_parting_2 : Own P w K mg base (L2.CX P w) "is_parting" 8 pm_is_parting (spIsPartA K A) := D_is_parting.own fun f fd F => ok_isPartA F T O_check_pair O_check_pair_1 O_read_head O_Book_used
  have GI_BookA : FnOk P w K mg base (L2.CX P w) 5 fi fdi pm_Book_init (spBookA K A) := ok_bookA FI T O_check_places O_check_heads O_check_heads_1 O_slots_behind
  have O_BookA : OwnC P w K mg base (L2.CX P w) "Book" A.Book 5 pm_Book_init (spBookA K A) := ⟨fi, fdi, GI_BookA, MI, T.Book.gC, B4⟩
  have O__law_called : Own P w K mg base (L2.CX P w) "_law_called" 9 pm__law_called (spCalled K A) := D__law_called.own fun f fd F => ok_called F T O_BookA O_Book_used O_Book_word_for O_Book_head_for O_write_heads_3 O_read_words_3 O_parting_words_2 O_is_parting_2
  have O__law_refused : OwnClr P w K mg base CX0 "_law_refused" 10 pm__law_refused (spRefd K A) := D__law_refused.ownClr fun f fd F => ok_refd F T O__law_called
  have O__law_words_refused : OwnClr P w K mg base CX0 "_law_words_refused" 12 pm__law_words_refused (spWr K A) := D__law_words_refused.ownClr fun f fd F => ok_wr F T O__law_refused O_is_word O_Book_len
  exact ok_law F T O__law_pool O__law_draw O__law_heads O_Book O_Book1 O__law_refused O__law_words_refused
end
theorem all_mk {P : Program} {w : World} {K : PySem.W.Frag} {h : Heap} {mg : Str → Option Value} {fa  Td AT0 ABadPart ABadName ABadHead ABadWord ABadWords AWholeError ABook f_is_integer f_is_between f_is_index f_is_list f_is_name f_is_tuple_of f_is_told_by f_check_heads f_is_word f_check_places f_next_of f_slots_behind f_read_head f_check_book f_write_heads f_read_words f_check_pair f_parting_words f_overwriting_words f_is_parting f__law_pool f__law_draw f__law_pick f__law_heads f__law_called f__law_refused f__law_words_refused f_law f_BadPart_init f_BadName_init f_BadHead_init f_BadWord_init f_BadWords_init f_Book_init f_Book_held f_Book_oldest_first f_Book_place_of f_Book_used f_Book_word_for f_Book_head_for f_Book_contains f_Book_len f_Book_eq : Addr} (X : K.In h) (G : h.Ns mainGlobals mg) (hfa : mg "law" = some (.ref fa))
    {od_is_integer an_is_integer od_is_between an_is_between od_is_index an_is_index od_is_list an_is_list od_is_name an_is_name od_is_tuple_of an_is_tuple_of od_is_told_by an_is_told_by od_check_heads an_check_heads od_is_word an_is_word od_check_places an_check_places od_next_of an_next_of od_slots_behind an_slots_behind od_read_head an_read_head od_check_book an_check_book od_write_heads an_write_heads od_read_words an_read_words od_check_pair an_check_pair od_parting_words an_parting_words od_overwriting_words an_overwriting_words od_is_parting an_is_parting od__law_pool an__law_pool od__law_draw an__law_draw od__law_pick an__law_pick od__law_heads an__law_heads od__law_called an__law_called od__law_refused an__law_refused od__law_words_refused an__law_words_refused od_law an_law od_BadPart_init an_BadPart_init od_BadName_init an_BadName_init od_BadHead_init an_BadHead_init od_BadWord_init an_BadWord_init od_BadWords_init an_BadWords_init od_Book_init an_Book_init od_Book_held an_Book_held od_Book_oldest_first an_Book_oldest_first od_Book_place_of an_Book_place_of od_Book_used an_Book_used od_Book_word_for an_Book_word_for od_Book_head_for an_Book_head_for od_Book_contains an_Book_contains od_Book_len an_Book_len od_Book_eq an_Book_eq ddt edt : Option Addr} {sl_is_integer sl_is_between sl_is_index sl_is_list sl_is_name sl_is_tuple_of sl_is_told_by sl_check_heads sl_is_word sl_check_places sl_next_of sl_slots_behind sl_read_head sl_check_book sl_write_heads sl_read_words sl_check_pair sl_parting_words sl_overwriting_words sl_is_parting sl__law_pool sl__law_draw sl__law_pick sl__law_heads sl__law_called sl__law_refused sl__law_words_refused sl_law sl_BadPart_init sl_BadName_init sl_BadHead_init sl_BadWord_init sl_BadWords_init sl_Book_init sl_Book_held sl_Book_oldest_first sl_Book_place_of sl_Book_used sl_Book_word_for sl_Book_head_for sl_Book_contains sl_Book_len sl_Book_eq dsl esl : Array (Option Value)} {oc_is_integer kV_is_integer dc_is_integer pm_is_integer_ cd_is_integer ct_is_integer oc_is_between kV_is_between dc_is_between pm_is_between_ cd_is_between ct_is_between oc_is_index kV_is_index dc_is_index pm_is_index_ cd_is_index ct_is_index oc_is_list kV_is_list dc_is_list pm_is_list_ cd_is_list ct_is_list oc_is_name kV_is_name dc_is_name pm_is_name_ cd_is_name ct_is_name oc_is_tuple_of kV_is_tuple_of dc_is_tuple_of pm_is_tuple_of_ cd_is_tuple_of ct_is_tuple_of oc_is_told_by kV_is_told_by dc_is_told_by pm_is_told_by_ cd_is_told_by ct_is_told_by oc_check_heads kV_check_heads dc_check_heads pm_check_heads_ cd_check_heads ct_check_heads oc_is_word kV_is_word dc_is_word pm_is_word_ cd_is_word ct_is_word oc_check_places kV_check_places dc_check_places pm_check_places_ cd_check_places ct_check_places oc_next_of kV_next_of dc_next_of pm_next_of_ cd_next_of ct_next_of oc_slots_behind kV_slots_behind dc_slots_behind pm_slots_behind_ cd_slots_behind ct_slots_behind oc_read_head kV_read_head dc_read_head pm_read_head_ cd_read_head ct_read_head oc_check_book kV_check_book dc_check_book pm_check_book_ cd_check_book ct_check_book oc_write_heads kV_write_heads dc_write_heads pm_write_heads_ cd_write_heads ct_write_heads oc_read_words kV_read_words dc_read_words pm_read_words_ cd_read_words ct_read_words oc_check_pair kV_check_pair dc_check_pair pm_check_pair_ cd_check_pair ct_check_pair oc_parting_words kV_parting_words dc_parting_words pm_parting_words_ cd_parting_words ct_parting_words oc_overwriting_words kV_overwriting_words dc_overwriting_words pm_overwriting_words_ cd_overwriting_words ct_overwriting_words oc_is_parting kV_is_parting dc_is_parting pm_is_parting_ cd_is_parting ct_is_parting oc__law_pool kV__law_pool dc__law_pool pm__law_pool_ cd__law_pool ct__law_pool oc__law_draw kV__law_draw dc__law_draw pm__law_draw_ cd__law_draw ct__law_draw oc__law_pick kV__law_pick dc__law_pick pm__law_pick_ cd__law_pick ct__law_pick oc__law_heads kV__law_heads dc__law_heads pm__law_heads_ cd__law_heads ct__law_heads oc__law_called kV__law_called dc__law_called pm__law_called_ cd__law_called ct__law_called oc__law_refused kV__law_refused dc__law_refused pm__law_refused_ cd__law_refused ct__law_refused oc__law_words_refused kV__law_words_refused dc__law_words_refused pm__law_words_refused_ cd__law_words_refused ct__law_words_refused oc_law kV_law dc_law pm_law_ cd_law ct_law oc_BadPart_init kV_BadPart_init dc_BadPart_init pm_BadPart_init_ cd_BadPart_init ct_BadPart_init oc_BadName_init kV_BadName_init dc_BadName_init pm_BadName_init_ cd_BadName_init ct_BadName_init oc_BadHead_init kV_BadHead_init dc_BadHead_init pm_BadHead_init_ cd_BadHead_init ct_BadHead_init oc_BadWord_init kV_BadWord_init dc_BadWord_init pm_BadWord_init_ cd_BadWord_init ct_BadWord_init oc_BadWords_init kV_BadWords_init dc_BadWords_init pm_BadWords_init_ cd_BadWords_init ct_BadWords_init oc_Book_init kV_Book_init dc_Book_init pm_Book_init_ cd_Book_init ct_Book_init oc_Book_held kV_Book_held dc_Book_held pm_Book_held_ cd_Book_held ct_Book_held oc_Book_oldest_first kV_Book_oldest_first dc_Book_oldest_first pm_Book_oldest_first_ cd_Book_oldest_first ct_Book_oldest_first oc_Book_place_of kV_Book_place_of dc_Book_place_of pm_Book_place_of_ cd_Book_place_of ct_Book_place_of oc_Book_used kV_Book_used dc_Book_used pm_Book_used_ cd_Book_used ct_Book_used oc_Book_word_for kV_Book_word_for dc_Book_word_for pm_Book_word_for_ cd_Book_word_for ct_Book_word_for oc_Book_head_for kV_Book_head_for dc_Book_head_for pm_Book_head_for_ cd_Book_head_for ct_Book_head_for oc_Book_contains kV_Book_contains dc_Book_contains pm_Book_contains_ cd_Book_contains ct_Book_contains oc_Book_len kV_Book_len dc_Book_len pm_Book_len_ cd_Book_len ct_Book_len oc_Book_eq kV_Book_eq dc_Book_eq pm_Book_eq_ cd_Book_eq ct_Book_eq dcl : Value} {t_MOST_PLACES t_ALPHABET : Tok} {dn en : Nat}
    {xBadPart_nm xBadPart_q : Str} {xBadPart_N : Addr} {xBadPart_bs : List Value} {xBadPart_sn : List Str} {xBadPart_sub : List Value} {xBadPart_ab : Bool} {xBadPart_col : Option Bool} {xBadPart_dd : Option Addr} {xBadPart_m0 xBadPart_m1 xBadPart_m2 xBadPart_m3 xBadPart_m5 : Option Value}
    {xBadName_nm xBadName_q : Str} {xBadName_N : Addr} {xBadName_bs : List Value} {xBadName_sn : List Str} {xBadName_sub : List Value} {xBadName_ab : Bool} {xBadName_col : Option Bool} {xBadName_dd : Option Addr} {xBadName_m0 xBadName_m1 xBadName_m2 xBadName_m3 xBadName_m5 : Option Value}
    {xBadHead_nm xBadHead_q : Str} {xBadHead_N : Addr} {xBadHead_bs : List Value} {xBadHead_sn : List Str} {xBadHead_sub : List Value} {xBadHead_ab : Bool} {xBadHead_col : Option Bool} {xBadHead_dd : Option Addr} {xBadHead_m0 xBadHead_m1 xBadHead_m2 xBadHead_m3 xBadHead_m5 : Option Value}
    {xBadWord_nm xBadWord_q : Str} {xBadWord_N : Addr} {xBadWord_bs : List Value} {xBadWord_sn : List Str} {xBadWord_sub : List Value} {xBadWord_ab : Bool} {xBadWord_col : Option Bool} {xBadWord_dd : Option Addr} {xBadWord_m0 xBadWord_m1 xBadWord_m2 xBadWord_m3 xBadWord_m5 : Option Value}
    {xBadWords_nm xBadWords_q : Str} {xBadWords_N : Addr} {xBadWords_bs : List Value} {xBadWords_sn : List Str} {xBadWords_sub : List Value} {xBadWords_ab : Bool} {xBadWords_col : Option Bool} {xBadWords_dd : Option Addr} {xBadWords_m0 xBadWords_m1 xBadWords_m2 xBadWords_m3 xBadWords_m5 : Option Value}
    (g_BadPart : PySem.W.nsIn K mainGlobals "BadPart" = some (some (.ref ABadPart)))
    (g_BadName : PySem.W.nsIn K mainGlobals "BadName" = some (some (.ref ABadName)))
    (g_BadHead : PySem.W.nsIn K mainGlobals "BadHead" = some (some (.ref ABadHead)))
    (g_BadWord : PySem.W.nsIn K mainGlobals "BadWord" = some (some (.ref ABadWord)))
    (g_BadWords : PySem.W.nsIn K mainGlobals "BadWords" = some (some (.ref ABadWords)))
    (g_WholeError : PySem.W.nsIn K mainGlobals "WholeError" = some (some (.ref AWholeError)))
    (g_Book : PySem.W.nsIn K mainGlobals "Book" = some (some (.ref ABook)))
    (a_is_integer : PySem.W.nsIn K mainGlobals "is_integer" = some (some (.ref f_is_integer)))
    (l_is_integer : K.lookup f_is_integer = some ⟨oc_is_integer, od_is_integer, .func (PySem.W.fnOf "is_integer" "is_integer" (defArgs s_is_integer) (defBody s_is_integer) (defScope s_is_integer) .none kV_is_integer dc_is_integer pm_is_integer_ an_is_integer cd_is_integer ct_is_integer), sl_is_integer⟩)
    (c_is_integer : PySem.W.codeIn K cd_is_integer "is_integer" = true)
    (k_is_integer : PySem.W.keepIn K (.ref f_is_integer) = true)
    (a_is_between : PySem.W.nsIn K mainGlobals "is_between" = some (some (.ref f_is_between)))
    (l_is_between : K.lookup f_is_between = some ⟨oc_is_between, od_is_between, .func (PySem.W.fnOf "is_between" "is_between" (defArgs s_is_between) (defBody s_is_between) (defScope s_is_between) .none kV_is_between dc_is_between pm_is_between_ an_is_between cd_is_between ct_is_between), sl_is_between⟩)
    (c_is_between : PySem.W.codeIn K cd_is_between "is_between" = true)
    (k_is_between : PySem.W.keepIn K (.ref f_is_between) = true)
    (a_is_index : PySem.W.nsIn K mainGlobals "is_index" = some (some (.ref f_is_index)))
    (l_is_index : K.lookup f_is_index = some ⟨oc_is_index, od_is_index, .func (PySem.W.fnOf "is_index" "is_index" (defArgs s_is_index) (defBody s_is_index) (defScope s_is_index) .none kV_is_index dc_is_index pm_is_index_ an_is_index cd_is_index ct_is_index), sl_is_index⟩)
    (c_is_index : PySem.W.codeIn K cd_is_index "is_index" = true)
    (k_is_index : PySem.W.keepIn K (.ref f_is_index) = true)
    (a_is_list : PySem.W.nsIn K mainGlobals "is_list" = some (some (.ref f_is_list)))
    (l_is_list : K.lookup f_is_list = some ⟨oc_is_list, od_is_list, .func (PySem.W.fnOf "is_list" "is_list" (defArgs s_is_list) (defBody s_is_list) (defScope s_is_list) .none kV_is_list dc_is_list pm_is_list_ an_is_list cd_is_list ct_is_list), sl_is_list⟩)
    (c_is_list : PySem.W.codeIn K cd_is_list "is_list" = true)
    (k_is_list : PySem.W.keepIn K (.ref f_is_list) = true)
    (a_is_name : PySem.W.nsIn K mainGlobals "is_name" = some (some (.ref f_is_name)))
    (l_is_name : K.lookup f_is_name = some ⟨oc_is_name, od_is_name, .func (PySem.W.fnOf "is_name" "is_name" (defArgs s_is_name) (defBody s_is_name) (defScope s_is_name) .none kV_is_name dc_is_name pm_is_name_ an_is_name cd_is_name ct_is_name), sl_is_name⟩)
    (c_is_name : PySem.W.codeIn K cd_is_name "is_name" = true)
    (k_is_name : PySem.W.keepIn K (.ref f_is_name) = true)
    (a_is_tuple_of : PySem.W.nsIn K mainGlobals "is_tuple_of" = some (some (.ref f_is_tuple_of)))
    (l_is_tuple_of : K.lookup f_is_tuple_of = some ⟨oc_is_tuple_of, od_is_tuple_of, .func (PySem.W.fnOf "is_tuple_of" "is_tuple_of" (defArgs s_is_tuple_of) (defBody s_is_tuple_of) (defScope s_is_tuple_of) .none kV_is_tuple_of dc_is_tuple_of pm_is_tuple_of_ an_is_tuple_of cd_is_tuple_of ct_is_tuple_of), sl_is_tuple_of⟩)
    (c_is_tuple_of : PySem.W.codeIn K cd_is_tuple_of "is_tuple_of" = true)
    (k_is_tuple_of : PySem.W.keepIn K (.ref f_is_tuple_of) = true)
    (a_is_told_by : PySem.W.nsIn K mainGlobals "is_told_by" = some (some (.ref f_is_told_by)))
    (l_is_told_by : K.lookup f_is_told_by = some ⟨oc_is_told_by, od_is_told_by, .func (PySem.W.fnOf "is_told_by" "is_told_by" (defArgs s_is_told_by) (defBody s_is_told_by) (defScope s_is_told_by) .none kV_is_told_by dc_is_told_by pm_is_told_by_ an_is_told_by cd_is_told_by ct_is_told_by), sl_is_told_by⟩)
    (c_is_told_by : PySem.W.codeIn K cd_is_told_by "is_told_by" = true)
    (k_is_told_by : PySem.W.keepIn K (.ref f_is_told_by) = true)
    (a_check_heads : PySem.W.nsIn K mainGlobals "check_heads" = some (some (.ref f_check_heads)))
    (l_check_heads : K.lookup f_check_heads = some ⟨oc_check_heads, od_check_heads, .func (PySem.W.fnOf "check_heads" "check_heads" (defArgs s_check_heads) (defBody s_check_heads) (defScope s_check_heads) .none kV_check_heads dc_check_heads pm_check_heads_ an_check_heads cd_check_heads ct_check_heads), sl_check_heads⟩)
    (c_check_heads : PySem.W.codeIn K cd_check_heads "check_heads" = true)
    (k_check_heads : PySem.W.keepIn K (.ref f_check_heads) = true)
    (a_is_word : PySem.W.nsIn K mainGlobals "is_word" = some (some (.ref f_is_word)))
    (l_is_word : K.lookup f_is_word = some ⟨oc_is_word, od_is_word, .func (PySem.W.fnOf "is_word" "is_word" (defArgs s_is_word) (defBody s_is_word) (defScope s_is_word) .none kV_is_word dc_is_word pm_is_word_ an_is_word cd_is_word ct_is_word), sl_is_word⟩)
    (c_is_word : PySem.W.codeIn K cd_is_word "is_word" = true)
    (k_is_word : PySem.W.keepIn K (.ref f_is_word) = true)
    (a_check_places : PySem.W.nsIn K mainGlobals "check_places" = some (some (.ref f_check_places)))
    (l_check_places : K.lookup f_check_places = some ⟨oc_check_places, od_check_places, .func (PySem.W.fnOf "check_places" "check_places" (defArgs s_check_places) (defBody s_check_places) (defScope s_check_places) .none kV_check_places dc_check_places pm_check_places_ an_check_places cd_check_places ct_check_places), sl_check_places⟩)
    (c_check_places : PySem.W.codeIn K cd_check_places "check_places" = true)
    (k_check_places : PySem.W.keepIn K (.ref f_check_places) = true)
    (a_next_of : PySem.W.nsIn K mainGlobals "next_of" = some (some (.ref f_next_of)))
    (l_next_of : K.lookup f_next_of = some ⟨oc_next_of, od_next_of, .func (PySem.W.fnOf "next_of" "next_of" (defArgs s_next_of) (defBody s_next_of) (defScope s_next_of) .none kV_next_of dc_next_of pm_next_of_ an_next_of cd_next_of ct_next_of), sl_next_of⟩)
    (c_next_of : PySem.W.codeIn K cd_next_of "next_of" = true)
    (k_next_of : PySem.W.keepIn K (.ref f_next_of) = true)
    (a_slots_behind : PySem.W.nsIn K mainGlobals "slots_behind" = some (some (.ref f_slots_behind)))
    (l_slots_behind : K.lookup f_slots_behind = some ⟨oc_slots_behind, od_slots_behind, .func (PySem.W.fnOf "slots_behind" "slots_behind" (defArgs s_slots_behind) (defBody s_slots_behind) (defScope s_slots_behind) .none kV_slots_behind dc_slots_behind pm_slots_behind_ an_slots_behind cd_slots_behind ct_slots_behind), sl_slots_behind⟩)
    (c_slots_behind : PySem.W.codeIn K cd_slots_behind "slots_behind" = true)
    (k_slots_behind : PySem.W.keepIn K (.ref f_slots_behind) = true)
    (a_read_head : PySem.W.nsIn K mainGlobals "read_head" = some (some (.ref f_read_head)))
    (l_read_head : K.lookup f_read_head = some ⟨oc_read_head, od_read_head, .func (PySem.W.fnOf "read_head" "read_head" (defArgs s_read_head) (defBody s_read_head) (defScope s_read_head) .none kV_read_head dc_read_head pm_read_head_ an_read_head cd_read_head ct_read_head), sl_read_head⟩)
    (c_read_head : PySem.W.codeIn K cd_read_head "read_head" = true)
    (k_read_head : PySem.W.keepIn K (.ref f_read_head) = true)
    (a_check_book : PySem.W.nsIn K mainGlobals "check_book" = some (some (.ref f_check_book)))
    (l_check_book : K.lookup f_check_book = some ⟨oc_check_book, od_check_book, .func (PySem.W.fnOf "check_book" "check_book" (defArgs s_check_book) (defBody s_check_book) (defScope s_check_book) .none kV_check_book dc_check_book pm_check_book_ an_check_book cd_check_book ct_check_book), sl_check_book⟩)
    (c_check_book : PySem.W.codeIn K cd_check_book "check_book" = true)
    (k_check_book : PySem.W.keepIn K (.ref f_check_book) = true)
    (a_write_heads : PySem.W.nsIn K mainGlobals "write_heads" = some (some (.ref f_write_heads)))
    (l_write_heads : K.lookup f_write_heads = some ⟨oc_write_heads, od_write_heads, .func (PySem.W.fnOf "write_heads" "write_heads" (defArgs s_write_heads) (defBody s_write_heads) (defScope s_write_heads) .none kV_write_heads dc_write_heads pm_write_heads_ an_write_heads cd_write_heads ct_write_heads), sl_write_heads⟩)
    (c_write_heads : PySem.W.codeIn K cd_write_heads "write_heads" = true)
    (k_write_heads : PySem.W.keepIn K (.ref f_write_heads) = true)
    (a_read_words : PySem.W.nsIn K mainGlobals "read_words" = some (some (.ref f_read_words)))
    (l_read_words : K.lookup f_read_words = some ⟨oc_read_words, od_read_words, .func (PySem.W.fnOf "read_words" "read_words" (defArgs s_read_words) (defBody s_read_words) (defScope s_read_words) .none kV_read_words dc_read_words pm_read_words_ an_read_words cd_read_words ct_read_words), sl_read_words⟩)
    (c_read_words : PySem.W.codeIn K cd_read_words "read_words" = true)
    (k_read_words : PySem.W.keepIn K (.ref f_read_words) = true)
    (a_check_pair : PySem.W.nsIn K mainGlobals "check_pair" = some (some (.ref f_check_pair)))
    (l_check_pair : K.lookup f_check_pair = some ⟨oc_check_pair, od_check_pair, .func (PySem.W.fnOf "check_pair" "check_pair" (defArgs s_check_pair) (defBody s_check_pair) (defScope s_check_pair) .none kV_check_pair dc_check_pair pm_check_pair_ an_check_pair cd_check_pair ct_check_pair), sl_check_pair⟩)
    (c_check_pair : PySem.W.codeIn K cd_check_pair "check_pair" = true)
    (k_check_pair : PySem.W.keepIn K (.ref f_check_pair) = true)
    (a_parting_words : PySem.W.nsIn K mainGlobals "parting_words" = some (some (.ref f_parting_words)))
    (l_parting_words : K.lookup f_parting_words = some ⟨oc_parting_words, od_parting_words, .func (PySem.W.fnOf "parting_words" "parting_words" (defArgs s_parting_words) (defBody s_parting_words) (defScope s_parting_words) .none kV_parting_words dc_parting_words pm_parting_words_ an_parting_words cd_parting_words ct_parting_words), sl_parting_words⟩)
    (c_parting_words : PySem.W.codeIn K cd_parting_words "parting_words" = true)
    (k_parting_words : PySem.W.keepIn K (.ref f_parting_words) = true)
    (a_overwriting_words : PySem.W.nsIn K mainGlobals "overwriting_words" = some (some (.ref f_overwriting_words)))
    (l_overwriting_words : K.lookup f_overwriting_words = some ⟨oc_overwriting_words, od_overwriting_words, .func (PySem.W.fnOf "overwriting_words" "overwriting_words" (defArgs s_overwriting_words) (defBody s_overwriting_words) (defScope s_overwriting_words) .none kV_overwriting_words dc_overwriting_words pm_overwriting_words_ an_overwriting_words cd_overwriting_words ct_overwriting_words), sl_overwriting_words⟩)
    (c_overwriting_words : PySem.W.codeIn K cd_overwriting_words "overwriting_words" = true)
    (k_overwriting_words : PySem.W.keepIn K (.ref f_overwriting_words) = true)
    (a_is_parting : PySem.W.nsIn K mainGlobals "is_parting" = some (some (.ref f_is_parting)))
    (l_is_parting : K.lookup f_is_parting = some ⟨oc_is_parting, od_is_parting, .func (PySem.W.fnOf "is_parting" "is_parting" (defArgs s_is_parting) (defBody s_is_parting) (defScope s_is_parting) .none kV_is_parting dc_is_parting pm_is_parting_ an_is_parting cd_is_parting ct_is_parting), sl_is_parting⟩)
    (c_is_parting : PySem.W.codeIn K cd_is_parting "is_parting" = true)
    (k_is_parting : PySem.W.keepIn K (.ref f_is_parting) = true)
    (a__law_pool : PySem.W.nsIn K mainGlobals "_law_pool" = some (some (.ref f__law_pool)))
    (l__law_pool : K.lookup f__law_pool = some ⟨oc__law_pool, od__law_pool, .func (PySem.W.fnOf "_law_pool" "_law_pool" (defArgs s__law_pool) (defBody s__law_pool) (defScope s__law_pool) .none kV__law_pool dc__law_pool pm__law_pool_ an__law_pool cd__law_pool ct__law_pool), sl__law_pool⟩)
    (c__law_pool : PySem.W.codeIn K cd__law_pool "_law_pool" = true)
    (k__law_pool : PySem.W.keepIn K (.ref f__law_pool) = true)
    (a__law_draw : PySem.W.nsIn K mainGlobals "_law_draw" = some (some (.ref f__law_draw)))
    (l__law_draw : K.lookup f__law_draw = some ⟨oc__law_draw, od__law_draw, .func (PySem.W.fnOf "_law_draw" "_law_draw" (defArgs s__law_draw) (defBody s__law_draw) (defScope s__law_draw) .none kV__law_draw dc__law_draw pm__law_draw_ an__law_draw cd__law_draw ct__law_draw), sl__law_draw⟩)
    (c__law_draw : PySem.W.codeIn K cd__law_draw "_law_draw" = true)
    (k__law_draw : PySem.W.keepIn K (.ref f__law_draw) = true)
    (a__law_pick : PySem.W.nsIn K mainGlobals "_law_pick" = some (some (.ref f__law_pick)))
    (l__law_pick : K.lookup f__law_pick = some ⟨oc__law_pick, od__law_pick, .func (PySem.W.fnOf "_law_pick" "_law_pick" (defArgs s__law_pick) (defBody s__law_pick) (defScope s__law_pick) .none kV__law_pick dc__law_pick pm__law_pick_ an__law_pick cd__law_pick ct__law_pick), sl__law_pick⟩)
    (c__law_pick : PySem.W.codeIn K cd__law_pick "_law_pick" = true)
    (k__law_pick : PySem.W.keepIn K (.ref f__law_pick) = true)
    (a__law_heads : PySem.W.nsIn K mainGlobals "_law_heads" = some (some (.ref f__law_heads)))
    (l__law_heads : K.lookup f__law_heads = some ⟨oc__law_heads, od__law_heads, .func (PySem.W.fnOf "_law_heads" "_law_heads" (defArgs s__law_heads) (defBody s__law_heads) (defScope s__law_heads) .none kV__law_heads dc__law_heads pm__law_heads_ an__law_heads cd__law_heads ct__law_heads), sl__law_heads⟩)
    (c__law_heads : PySem.W.codeIn K cd__law_heads "_law_heads" = true)
    (k__law_heads : PySem.W.keepIn K (.ref f__law_heads) = true)
    (a__law_called : PySem.W.nsIn K mainGlobals "_law_called" = some (some (.ref f__law_called)))
    (l__law_called : K.lookup f__law_called = some ⟨oc__law_called, od__law_called, .func (PySem.W.fnOf "_law_called" "_law_called" (defArgs s__law_called) (defBody s__law_called) (defScope s__law_called) .none kV__law_called dc__law_called pm__law_called_ an__law_called cd__law_called ct__law_called), sl__law_called⟩)
    (c__law_called : PySem.W.codeIn K cd__law_called "_law_called" = true)
    (k__law_called : PySem.W.keepIn K (.ref f__law_called) = true)
    (a__law_refused : PySem.W.nsIn K mainGlobals "_law_refused" = some (some (.ref f__law_refused)))
    (l__law_refused : K.lookup f__law_refused = some ⟨oc__law_refused, od__law_refused, .func (PySem.W.fnOf "_law_refused" "_law_refused" (defArgs s__law_refused) (defBody s__law_refused) (defScope s__law_refused) .none kV__law_refused dc__law_refused pm__law_refused_ an__law_refused cd__law_refused ct__law_refused), sl__law_refused⟩)
    (c__law_refused : PySem.W.codeIn K cd__law_refused "_law_refused" = true)
    (k__law_refused : PySem.W.keepIn K (.ref f__law_refused) = true)
    (a__law_words_refused : PySem.W.nsIn K mainGlobals "_law_words_refused" = some (some (.ref f__law_words_refused)))
    (l__law_words_refused : K.lookup f__law_words_refused = some ⟨oc__law_words_refused, od__law_words_refused, .func (PySem.W.fnOf "_law_words_refused" "_law_words_refused" (defArgs s__law_words_refused) (defBody s__law_words_refused) (defScope s__law_words_refused) .none kV__law_words_refused dc__law_words_refused pm__law_words_refused_ an__law_words_refused cd__law_words_refused ct__law_words_refused), sl__law_words_refused⟩)
    (c__law_words_refused : PySem.W.codeIn K cd__law_words_refused "_law_words_refused" = true)
    (k__law_words_refused : PySem.W.keepIn K (.ref f__law_words_refused) = true)
    (a_law : PySem.W.nsIn K mainGlobals "law" = some (some (.ref f_law)))
    (l_law : K.lookup f_law = some ⟨oc_law, od_law, .func (PySem.W.fnOf "law" "law" (defArgs s_law) (defBody s_law) (defScope s_law) .none kV_law dc_law pm_law_ an_law cd_law ct_law), sl_law⟩)
    (c_law : PySem.W.codeIn K cd_law "law" = true)
    (k_law : PySem.W.keepIn K (.ref f_law) = true)
    (a_BadPart_init : PySem.W.findIn K (.ref ABadPart) "__init__" = some (some (.ref f_BadPart_init)))
    (i_BadPart_init : PySem.W.typeIn K (.ref f_BadPart_init) = some (.type "function"))
    (l_BadPart_init : K.lookup f_BadPart_init = some ⟨oc_BadPart_init, od_BadPart_init, .func (PySem.W.fnOf "__init__" "BadPart.__init__" (defArgs s_BadPart_init) (defBody s_BadPart_init) (defScope s_BadPart_init) .none kV_BadPart_init dc_BadPart_init pm_BadPart_init_ an_BadPart_init cd_BadPart_init ct_BadPart_init), sl_BadPart_init⟩)
    (c_BadPart_init : PySem.W.codeIn K cd_BadPart_init "BadPart.__init__" = true)
    (k_BadPart_init : PySem.W.keepIn K (.ref f_BadPart_init) = true)
    (a_BadName_init : PySem.W.findIn K (.ref ABadName) "__init__" = some (some (.ref f_BadName_init)))
    (i_BadName_init : PySem.W.typeIn K (.ref f_BadName_init) = some (.type "function"))
    (l_BadName_init : K.lookup f_BadName_init = some ⟨oc_BadName_init, od_BadName_init, .func (PySem.W.fnOf "__init__" "BadName.__init__" (defArgs s_BadName_init) (defBody s_BadName_init) (defScope s_BadName_init) .none kV_BadName_init dc_BadName_init pm_BadName_init_ an_BadName_init cd_BadName_init ct_BadName_init), sl_BadName_init⟩)
    (c_BadName_init : PySem.W.codeIn K cd_BadName_init "BadName.__init__" = true)
    (k_BadName_init : PySem.W.keepIn K (.ref f_BadName_init) = true)
    (a_BadHead_init : PySem.W.findIn K (.ref ABadHead) "__init__" = some (some (.ref f_BadHead_init)))
    (i_BadHead_init : PySem.W.typeIn K (.ref f_BadHead_init) = some (.type "function"))
    (l_BadHead_init : K.lookup f_BadHead_init = some ⟨oc_BadHead_init, od_BadHead_init, .func (PySem.W.fnOf "__init__" "BadHead.__init__" (defArgs s_BadHead_init) (defBody s_BadHead_init) (defScope s_BadHead_init) .none kV_BadHead_init dc_BadHead_init pm_BadHead_init_ an_BadHead_init cd_BadHead_init ct_BadHead_init), sl_BadHead_init⟩)
    (c_BadHead_init : PySem.W.codeIn K cd_BadHead_init "BadHead.__init__" = true)
    (k_BadHead_init : PySem.W.keepIn K (.ref f_BadHead_init) = true)
    (a_BadWord_init : PySem.W.findIn K (.ref ABadWord) "__init__" = some (some (.ref f_BadWord_init)))
    (i_BadWord_init : PySem.W.typeIn K (.ref f_BadWord_init) = some (.type "function"))
    (l_BadWord_init : K.lookup f_BadWord_init = some ⟨oc_BadWord_init, od_BadWord_init, .func (PySem.W.fnOf "__init__" "BadWord.__init__" (defArgs s_BadWord_init) (defBody s_BadWord_init) (defScope s_BadWord_init) .none kV_BadWord_init dc_BadWord_init pm_BadWord_init_ an_BadWord_init cd_BadWord_init ct_BadWord_init), sl_BadWord_init⟩)
    (c_BadWord_init : PySem.W.codeIn K cd_BadWord_init "BadWord.__init__" = true)
    (k_BadWord_init : PySem.W.keepIn K (.ref f_BadWord_init) = true)
    (a_BadWords_init : PySem.W.findIn K (.ref ABadWords) "__init__" = some (some (.ref f_BadWords_init)))
    (i_BadWords_init : PySem.W.typeIn K (.ref f_BadWords_init) = some (.type "function"))
    (l_BadWords_init : K.lookup f_BadWords_init = some ⟨oc_BadWords_init, od_BadWords_init, .func (PySem.W.fnOf "__init__" "BadWords.__init__" (defArgs s_BadWords_init) (defBody s_BadWords_init) (defScope s_BadWords_init) .none kV_BadWords_init dc_BadWords_init pm_BadWords_init_ an_BadWords_init cd_BadWords_init ct_BadWords_init), sl_BadWords_init⟩)
    (c_BadWords_init : PySem.W.codeIn K cd_BadWords_init "BadWords.__init__" = true)
    (k_BadWords_init : PySem.W.keepIn K (.ref f_BadWords_init) = true)
    (a_Book_init : PySem.W.findIn K (.ref ABook) "__init__" = some (some (.ref f_Book_init)))
    (i_Book_init : PySem.W.isFn K (.ref f_Book_init) = true)
    (l_Book_init : K.lookup f_Book_init = some ⟨oc_Book_init, od_Book_init, .func (PySem.W.fnOf "__init__" "Book.__init__" (defArgs s_Book_init) (defBody s_Book_init) (defScope s_Book_init) (.ref Td) kV_Book_init dc_Book_init pm_Book_init_ an_Book_init cd_Book_init ct_Book_init), sl_Book_init⟩)
    (c_Book_init : PySem.W.codeIn K cd_Book_init "Book.__init__" = true)
    (k_Book_init : PySem.W.keepIn K (.ref f_Book_init) = true)
    (a_Book_held : PySem.W.findIn K (.ref ABook) "held" = some (some (.ref f_Book_held)))
    (i_Book_held : PySem.W.isFn K (.ref f_Book_held) = true)
    (l_Book_held : K.lookup f_Book_held = some ⟨oc_Book_held, od_Book_held, .func (PySem.W.fnOf "held" "Book.held" (defArgs s_Book_held) (defBody s_Book_held) (defScope s_Book_held) .none kV_Book_held dc_Book_held pm_Book_held_ an_Book_held cd_Book_held ct_Book_held), sl_Book_held⟩)
    (c_Book_held : PySem.W.codeIn K cd_Book_held "Book.held" = true)
    (k_Book_held : PySem.W.keepIn K (.ref f_Book_held) = true)
    (a_Book_oldest_first : PySem.W.findIn K (.ref ABook) "oldest_first" = some (some (.ref f_Book_oldest_first)))
    (i_Book_oldest_first : PySem.W.isFn K (.ref f_Book_oldest_first) = true)
    (l_Book_oldest_first : K.lookup f_Book_oldest_first = some ⟨oc_Book_oldest_first, od_Book_oldest_first, .func (PySem.W.fnOf "oldest_first" "Book.oldest_first" (defArgs s_Book_oldest_first) (defBody s_Book_oldest_first) (defScope s_Book_oldest_first) .none kV_Book_oldest_first dc_Book_oldest_first pm_Book_oldest_first_ an_Book_oldest_first cd_Book_oldest_first ct_Book_oldest_first), sl_Book_oldest_first⟩)
    (c_Book_oldest_first : PySem.W.codeIn K cd_Book_oldest_first "Book.oldest_first" = true)
    (k_Book_oldest_first : PySem.W.keepIn K (.ref f_Book_oldest_first) = true)
    (a_Book_place_of : PySem.W.findIn K (.ref ABook) "place_of" = some (some (.ref f_Book_place_of)))
    (i_Book_place_of : PySem.W.isFn K (.ref f_Book_place_of) = true)
    (l_Book_place_of : K.lookup f_Book_place_of = some ⟨oc_Book_place_of, od_Book_place_of, .func (PySem.W.fnOf "place_of" "Book.place_of" (defArgs s_Book_place_of) (defBody s_Book_place_of) (defScope s_Book_place_of) .none kV_Book_place_of dc_Book_place_of pm_Book_place_of_ an_Book_place_of cd_Book_place_of ct_Book_place_of), sl_Book_place_of⟩)
    (c_Book_place_of : PySem.W.codeIn K cd_Book_place_of "Book.place_of" = true)
    (k_Book_place_of : PySem.W.keepIn K (.ref f_Book_place_of) = true)
    (a_Book_used : PySem.W.findIn K (.ref ABook) "used" = some (some (.ref f_Book_used)))
    (i_Book_used : PySem.W.isFn K (.ref f_Book_used) = true)
    (l_Book_used : K.lookup f_Book_used = some ⟨oc_Book_used, od_Book_used, .func (PySem.W.fnOf "used" "Book.used" (defArgs s_Book_used) (defBody s_Book_used) (defScope s_Book_used) .none kV_Book_used dc_Book_used pm_Book_used_ an_Book_used cd_Book_used ct_Book_used), sl_Book_used⟩)
    (c_Book_used : PySem.W.codeIn K cd_Book_used "Book.used" = true)
    (k_Book_used : PySem.W.keepIn K (.ref f_Book_used) = true)
    (a_Book_word_for : PySem.W.findIn K (.ref ABook) "word_for" = some (some (.ref f_Book_word_for)))
    (i_Book_word_for : PySem.W.isFn K (.ref f_Book_word_for) = true)
    (l_Book_word_for : K.lookup f_Book_word_for = some ⟨oc_Book_word_for, od_Book_word_for, .func (PySem.W.fnOf "word_for" "Book.word_for" (defArgs s_Book_word_for) (defBody s_Book_word_for) (defScope s_Book_word_for) .none kV_Book_word_for dc_Book_word_for pm_Book_word_for_ an_Book_word_for cd_Book_word_for ct_Book_word_for), sl_Book_word_for⟩)
    (c_Book_word_for : PySem.W.codeIn K cd_Book_word_for "Book.word_for" = true)
    (k_Book_word_for : PySem.W.keepIn K (.ref f_Book_word_for) = true)
    (a_Book_head_for : PySem.W.findIn K (.ref ABook) "head_for" = some (some (.ref f_Book_head_for)))
    (i_Book_head_for : PySem.W.isFn K (.ref f_Book_head_for) = true)
    (l_Book_head_for : K.lookup f_Book_head_for = some ⟨oc_Book_head_for, od_Book_head_for, .func (PySem.W.fnOf "head_for" "Book.head_for" (defArgs s_Book_head_for) (defBody s_Book_head_for) (defScope s_Book_head_for) .none kV_Book_head_for dc_Book_head_for pm_Book_head_for_ an_Book_head_for cd_Book_head_for ct_Book_head_for), sl_Book_head_for⟩)
    (c_Book_head_for : PySem.W.codeIn K cd_Book_head_for "Book.head_for" = true)
    (k_Book_head_for : PySem.W.keepIn K (.ref f_Book_head_for) = true)
    (a_Book_contains : PySem.W.findIn K (.ref ABook) "__contains__" = some (some (.ref f_Book_contains)))
    (i_Book_contains : PySem.W.isFn K (.ref f_Book_contains) = true)
    (l_Book_contains : K.lookup f_Book_contains = some ⟨oc_Book_contains, od_Book_contains, .func (PySem.W.fnOf "__contains__" "Book.__contains__" (defArgs s_Book_contains) (defBody s_Book_contains) (defScope s_Book_contains) .none kV_Book_contains dc_Book_contains pm_Book_contains_ an_Book_contains cd_Book_contains ct_Book_contains), sl_Book_contains⟩)
    (c_Book_contains : PySem.W.codeIn K cd_Book_contains "Book.__contains__" = true)
    (k_Book_contains : PySem.W.keepIn K (.ref f_Book_contains) = true)
    (a_Book_len : PySem.W.findIn K (.ref ABook) "__len__" = some (some (.ref f_Book_len)))
    (i_Book_len : PySem.W.isFn K (.ref f_Book_len) = true)
    (l_Book_len : K.lookup f_Book_len = some ⟨oc_Book_len, od_Book_len, .func (PySem.W.fnOf "__len__" "Book.__len__" (defArgs s_Book_len) (defBody s_Book_len) (defScope s_Book_len) .none kV_Book_len dc_Book_len pm_Book_len_ an_Book_len cd_Book_len ct_Book_len), sl_Book_len⟩)
    (c_Book_len : PySem.W.codeIn K cd_Book_len "Book.__len__" = true)
    (k_Book_len : PySem.W.keepIn K (.ref f_Book_len) = true)
    (a_Book_eq : PySem.W.findIn K (.ref ABook) "__eq__" = some (some (.ref f_Book_eq)))
    (i_Book_eq : PySem.W.isFn K (.ref f_Book_eq) = true)
    (l_Book_eq : K.lookup f_Book_eq = some ⟨oc_Book_eq, od_Book_eq, .func (PySem.W.fnOf "__eq__" "Book.__eq__" (defArgs s_Book_eq) (defBody s_Book_eq) (defScope s_Book_eq) .none kV_Book_eq dc_Book_eq pm_Book_eq_ an_Book_eq cd_Book_eq ct_Book_eq), sl_Book_eq⟩)
    (c_Book_eq : PySem.W.codeIn K cd_Book_eq "Book.__eq__" = true)
    (k_Book_eq : PySem.W.keepIn K (.ref f_Book_eq) = true)
    (d_T : K.lookup Td = some ⟨dcl, ddt, .seq #[.ref AT0] dn, dsl⟩)
    (d_0 : K.lookup AT0 = some ⟨.type "tuple", edt, .seq #[] en, esl⟩)
    (n_isinstance : PySem.W.nsIn K mainGlobals "isinstance" = some none)
    (n_int : PySem.W.nsIn K mainGlobals "int" = some none)
    (n_bool : PySem.W.nsIn K mainGlobals "bool" = some none)
    (n_str : PySem.W.nsIn K mainGlobals "str" = some none)
    (n_list : PySem.W.nsIn K mainGlobals "list" = some none)
    (n_tuple : PySem.W.nsIn K mainGlobals "tuple" = some none)
    (n_len : PySem.W.nsIn K mainGlobals "len" = some none)
    (n_range : PySem.W.nsIn K mainGlobals "range" = some none)
    (n_enumerate : PySem.W.nsIn K mainGlobals "enumerate" = some none)
    (n_all : PySem.W.nsIn K mainGlobals "all" = some none)
    (n_abs : PySem.W.nsIn K mainGlobals "abs" = some none)
    (n_sum : PySem.W.nsIn K mainGlobals "sum" = some none)
    (n_repr : PySem.W.nsIn K mainGlobals "repr" = some none)
    (n_zip : PySem.W.nsIn K mainGlobals "zip" = some none)
    (v_MOST_PLACES : PySem.W.nsIn K mainGlobals "MOST_PLACES" = some (some (.int 4 t_MOST_PLACES)))
    (v_ALPHABET : PySem.W.nsIn K mainGlobals "ALPHABET" = some (some (.str "abcdefghijklmnopqrstuvwxyz" t_ALPHABET)))
    (s_hn : PySem.W.specialIn K (.builtin "object.__class__") "__get__" = some (some (.builtin "getset_descriptor.__get__")))
    (s_tk : PySem.W.takesIn K (.builtin "object.__class__") = some true)
    (pg_Book : PySem.W.plainGet K ABook Str.empty = true)
    (hd_Book : PySem.W.hasDictIn K ABook = true)
    (po_Book : PySem.W.plainOver K ABook = true)
    (sa_Book : PySem.W.findIn K (.ref ABook) "__setattr__" = some (some (.builtin "object.__setattr__")))
    (ha_Book : PySem.W.findIn K (.ref ABook) "__class__" = some (some (.builtin "object.__class__")))
    (hm_Book : PySem.W.mroIn K ABook (.type "object") = some true)
    (ne_Book : PySem.W.findIn K (.ref ABook) "__ne__" = some (some (.builtin "object.__ne__")))
    (is_Book : PySem.W.isClsIn K ABook = true)
    (ty_Book : PySem.W.typeIn K (.ref ABook) = some (.type "type"))
    (tup_Book : PySem.W.subIn K (.ref ABook) (.type "tuple") = some false)
    (lst_Book : PySem.W.subIn K (.ref ABook) (.type "list") = some false)
    (int_Book : PySem.W.subIn K (.ref ABook) (.type "int") = some false)
    (str_Book : PySem.W.subIn K (.ref ABook) (.type "str") = some false)
    (mk_Book : PySem.W.makesIn K ABook = true)
    (kc_Book : PySem.W.keepIn K (.ref ABook) = true)
    (na_Book_places : PySem.W.findIn K (.ref ABook) "places" = some none)
    (na_Book_slots : PySem.W.findIn K (.ref ABook) "slots" = some none)
    (na_Book_order : PySem.W.findIn K (.ref ABook) "order" = some none)
    (xBadPart_L : K.lookup ABadPart = some (excClassObj xBadPart_nm xBadPart_q ABadPart xBadPart_N xBadPart_bs [.ref AWholeError, .type "ValueError", .type "Exception", .type "BaseException", .type "object"] true xBadPart_sn xBadPart_sub xBadPart_ab xBadPart_col xBadPart_dd xBadPart_m0 xBadPart_m1 xBadPart_m2 xBadPart_m3 xBadPart_m5 "ValueError.__new__"))
    (xBadPart_sa : PySem.W.findIn K (.ref ABadPart) "__setattr__" = some (some (.builtin "object.__setattr__")))
    (xBadPart_ex : PySem.W.subIn K (.ref ABadPart) (.type "BaseException") = some true)
    (xBadPart_ty : PySem.W.typeIn K (.ref ABadPart) = some (.type "type"))
    (xBadPart_kC : PySem.W.keepIn K (.ref ABadPart) = true)
    (xBadPart_noA : PySem.W.findIn K (.ref ABadPart) "part" = some none)
    (xBadPart_hg : PySem.W.findIn K (.ref ABadPart) "__getattribute__" = some (some (.builtin "BaseException.__getattribute__")))
    (xBadPart_hk : PySem.W.findIn K (.ref ABadPart) "__getattr__" = some none)
    (xBadPart_hd : PySem.W.hasDictIn K ABadPart = true)
    (xBadPart_ha : PySem.W.findIn K (.ref ABadPart) "__class__" = some (some (.builtin "object.__class__")))
    (xBadPart_hm : PySem.W.mroIn K ABadPart (.type "object") = some true)
    (xBadPart_is : PySem.W.isClsIn K ABadPart = true)
    (xBadPart_ss : PySem.W.subIn K (.ref ABadPart) (.ref ABadPart) = some true)
    (xBadPart_w : PySem.W.subIn K (.ref ABadPart) (.ref AWholeError) = some true)
    (xBadName_L : K.lookup ABadName = some (excClassObj xBadName_nm xBadName_q ABadName xBadName_N xBadName_bs [.ref AWholeError, .type "ValueError", .type "Exception", .type "BaseException", .type "object"] true xBadName_sn xBadName_sub xBadName_ab xBadName_col xBadName_dd xBadName_m0 xBadName_m1 xBadName_m2 xBadName_m3 xBadName_m5 "ValueError.__new__"))
    (xBadName_sa : PySem.W.findIn K (.ref ABadName) "__setattr__" = some (some (.builtin "object.__setattr__")))
    (xBadName_ex : PySem.W.subIn K (.ref ABadName) (.type "BaseException") = some true)
    (xBadName_ty : PySem.W.typeIn K (.ref ABadName) = some (.type "type"))
    (xBadName_kC : PySem.W.keepIn K (.ref ABadName) = true)
    (xBadName_noA : PySem.W.findIn K (.ref ABadName) "name" = some none)
    (xBadName_hg : PySem.W.findIn K (.ref ABadName) "__getattribute__" = some (some (.builtin "BaseException.__getattribute__")))
    (xBadName_hk : PySem.W.findIn K (.ref ABadName) "__getattr__" = some none)
    (xBadName_hd : PySem.W.hasDictIn K ABadName = true)
    (xBadName_ha : PySem.W.findIn K (.ref ABadName) "__class__" = some (some (.builtin "object.__class__")))
    (xBadName_hm : PySem.W.mroIn K ABadName (.type "object") = some true)
    (xBadName_is : PySem.W.isClsIn K ABadName = true)
    (xBadName_ss : PySem.W.subIn K (.ref ABadName) (.ref ABadName) = some true)
    (xBadName_w : PySem.W.subIn K (.ref ABadName) (.ref AWholeError) = some true)
    (xBadHead_L : K.lookup ABadHead = some (excClassObj xBadHead_nm xBadHead_q ABadHead xBadHead_N xBadHead_bs [.ref AWholeError, .type "ValueError", .type "Exception", .type "BaseException", .type "object"] true xBadHead_sn xBadHead_sub xBadHead_ab xBadHead_col xBadHead_dd xBadHead_m0 xBadHead_m1 xBadHead_m2 xBadHead_m3 xBadHead_m5 "ValueError.__new__"))
    (xBadHead_sa : PySem.W.findIn K (.ref ABadHead) "__setattr__" = some (some (.builtin "object.__setattr__")))
    (xBadHead_ex : PySem.W.subIn K (.ref ABadHead) (.type "BaseException") = some true)
    (xBadHead_ty : PySem.W.typeIn K (.ref ABadHead) = some (.type "type"))
    (xBadHead_kC : PySem.W.keepIn K (.ref ABadHead) = true)
    (xBadHead_noA : PySem.W.findIn K (.ref ABadHead) "index" = some none)
    (xBadHead_hg : PySem.W.findIn K (.ref ABadHead) "__getattribute__" = some (some (.builtin "BaseException.__getattribute__")))
    (xBadHead_hk : PySem.W.findIn K (.ref ABadHead) "__getattr__" = some none)
    (xBadHead_hd : PySem.W.hasDictIn K ABadHead = true)
    (xBadHead_ha : PySem.W.findIn K (.ref ABadHead) "__class__" = some (some (.builtin "object.__class__")))
    (xBadHead_hm : PySem.W.mroIn K ABadHead (.type "object") = some true)
    (xBadHead_is : PySem.W.isClsIn K ABadHead = true)
    (xBadHead_ss : PySem.W.subIn K (.ref ABadHead) (.ref ABadHead) = some true)
    (xBadHead_w : PySem.W.subIn K (.ref ABadHead) (.ref AWholeError) = some true)
    (xBadWord_L : K.lookup ABadWord = some (excClassObj xBadWord_nm xBadWord_q ABadWord xBadWord_N xBadWord_bs [.ref AWholeError, .type "ValueError", .type "Exception", .type "BaseException", .type "object"] true xBadWord_sn xBadWord_sub xBadWord_ab xBadWord_col xBadWord_dd xBadWord_m0 xBadWord_m1 xBadWord_m2 xBadWord_m3 xBadWord_m5 "ValueError.__new__"))
    (xBadWord_sa : PySem.W.findIn K (.ref ABadWord) "__setattr__" = some (some (.builtin "object.__setattr__")))
    (xBadWord_ex : PySem.W.subIn K (.ref ABadWord) (.type "BaseException") = some true)
    (xBadWord_ty : PySem.W.typeIn K (.ref ABadWord) = some (.type "type"))
    (xBadWord_kC : PySem.W.keepIn K (.ref ABadWord) = true)
    (xBadWord_noA : PySem.W.findIn K (.ref ABadWord) "word" = some none)
    (xBadWord_hg : PySem.W.findIn K (.ref ABadWord) "__getattribute__" = some (some (.builtin "BaseException.__getattribute__")))
    (xBadWord_hk : PySem.W.findIn K (.ref ABadWord) "__getattr__" = some none)
    (xBadWord_hd : PySem.W.hasDictIn K ABadWord = true)
    (xBadWord_ha : PySem.W.findIn K (.ref ABadWord) "__class__" = some (some (.builtin "object.__class__")))
    (xBadWord_hm : PySem.W.mroIn K ABadWord (.type "object") = some true)
    (xBadWord_is : PySem.W.isClsIn K ABadWord = true)
    (xBadWord_ss : PySem.W.subIn K (.ref ABadWord) (.ref ABadWord) = some true)
    (xBadWord_w : PySem.W.subIn K (.ref ABadWord) (.ref AWholeError) = some true)
    (xBadWords_L : K.lookup ABadWords = some (excClassObj xBadWords_nm xBadWords_q ABadWords xBadWords_N xBadWords_bs [.ref AWholeError, .type "ValueError", .type "Exception", .type "BaseException", .type "object"] true xBadWords_sn xBadWords_sub xBadWords_ab xBadWords_col xBadWords_dd xBadWords_m0 xBadWords_m1 xBadWords_m2 xBadWords_m3 xBadWords_m5 "ValueError.__new__"))
    (xBadWords_sa : PySem.W.findIn K (.ref ABadWords) "__setattr__" = some (some (.builtin "object.__setattr__")))
    (xBadWords_ex : PySem.W.subIn K (.ref ABadWords) (.type "BaseException") = some true)
    (xBadWords_ty : PySem.W.typeIn K (.ref ABadWords) = some (.type "type"))
    (xBadWords_kC : PySem.W.keepIn K (.ref ABadWords) = true)
    (xBadWords_noA : PySem.W.findIn K (.ref ABadWords) "index" = some none)
    (xBadWords_hg : PySem.W.findIn K (.ref ABadWords) "__getattribute__" = some (some (.builtin "BaseException.__getattribute__")))
    (xBadWords_hk : PySem.W.findIn K (.ref ABadWords) "__getattr__" = some none)
    (xBadWords_hd : PySem.W.hasDictIn K ABadWords = true)
    (xBadWords_ha : PySem.W.findIn K (.ref ABadWords) "__class__" = some (some (.builtin "object.__class__")))
    (xBadWords_hm : PySem.W.mroIn K ABadWords (.type "object") = some true)
    (xBadWords_is : PySem.W.isClsIn K ABadWords = true)
    (xBadWords_ss : PySem.W.subIn K (.ref ABadWords) (.ref ABadWords) = some true)
    (xBadWords_w : PySem.W.subIn K (.ref ABadWords) (.ref AWholeError) = some true)
    (xo_BadHead_BadPart : PySem.W.subIn K (.ref ABadHead) (.ref ABadPart) = some false)
    (xo_BadName_BadPart : PySem.W.subIn K (.ref ABadName) (.ref ABadPart) = some false)
    (xo_BadName_BadHead : PySem.W.subIn K (.ref ABadName) (.ref ABadHead) = some false)
    (xo_BadWord_BadPart : PySem.W.subIn K (.ref ABadWord) (.ref ABadPart) = some false)
    (xo_BadWord_BadHead : PySem.W.subIn K (.ref ABadWord) (.ref ABadHead) = some false)
    (xo_BadWord_BadName : PySem.W.subIn K (.ref ABadWord) (.ref ABadName) = some false)
    (xo_BadWords_BadPart : PySem.W.subIn K (.ref ABadWords) (.ref ABadPart) = some false)
    (xo_BadWords_BadHead : PySem.W.subIn K (.ref ABadWords) (.ref ABadHead) = some false)
    (xo_BadWords_BadName : PySem.W.subIn K (.ref ABadWords) (.ref ABadName) = some false)
    (xo_BadWords_BadWord : PySem.W.subIn K (.ref ABadWords) (.ref ABadWord) = some false)
    (xw_i : PySem.W.isClsIn K AWholeError = true)
    (xw_t : PySem.W.typeIn K (.ref AWholeError) = some (.type "type"))
    (xw_b : PySem.W.subIn K (.ref AWholeError) (.type "BaseException") = some true)
    : ∃ fd : FuncData, (∀ (s : Shared) (v : Value), BindsTo s fd ⟨[v], []⟩ [("_law_script", v)]) ∧ ∀ base : Heap, K.In base → base.Ns mainGlobals mg → FnClr P w K mg base CX0 13 fa fd ["_law_script"] (spLaw K) := by
  have e := hfa.symm.trans (PySem.W.mg_of X G a_law)
  cases e
  have F_is_integer := fun_mk (st := s_is_integer) l_is_integer c_is_integer k_is_integer
  have D_is_integer : DefAt K mg "is_integer" s_is_integer pm_is_integer := ⟨_, _, F_is_integer, PySem.W.mg_of X G a_is_integer, F_is_integer.binds (ps := pm_is_integer) fun _ _ _ _ _ _ us hl => match us, hl with | [_], _ => rfl⟩
  have F_is_between := fun_mk (st := s_is_between) l_is_between c_is_between k_is_between
  have D_is_between : DefAt K mg "is_between" s_is_between pm_is_between := ⟨_, _, F_is_between, PySem.W.mg_of X G a_is_between, F_is_between.binds (ps := pm_is_between) fun _ _ _ _ _ _ us hl => match us, hl with | [_, _, _], _ => rfl⟩
  have F_is_index := fun_mk (st := s_is_index) l_is_index c_is_index k_is_index
  have D_is_index : DefAt K mg "is_index" s_is_index pm_is_index := ⟨_, _, F_is_index, PySem.W.mg_of X G a_is_index, F_is_index.binds (ps := pm_is_index) fun _ _ _ _ _ _ us hl => match us, hl with | [_, _], _ => rfl⟩
  have F_is_list := fun_mk (st := s_is_list) l_is_list c_is_list k_is_list
  have D_is_list : DefAt K mg "is_list" s_is_list pm_is_list := ⟨_, _, F_is_list, PySem.W.mg_of X G a_is_list, F_is_list.binds (ps := pm_is_list) fun _ _ _ _ _ _ us hl => match us, hl with | [_], _ => rfl⟩
  have F_is_name := fun_mk (st := s_is_name) l_is_name c_is_name k_is_name
  have D_is_name : DefAt K mg "is_name" s_is_name pm_is_name := ⟨_, _, F_is_name, PySem.W.mg_of X G a_is_name, F_is_name.binds (ps := pm_is_name) fun _ _ _ _ _ _ us hl => match us, hl with | [_], _ => rfl⟩
  have F_is_tuple_of := fun_mk (st := s_is_tuple_of) l_is_tuple_of c_is_tuple_of k_is_tuple_of
  have D_is_tuple_of : DefAt K mg "is_tuple_of" s_is_tuple_of pm_is_tuple_of := ⟨_, _, F_is_tuple_of, PySem.W.mg_of X G a_is_tuple_of, F_is_tuple_of.binds (ps := pm_is_tuple_of) fun _ _ _ _ _ _ us hl => match us, hl with | [_, _], _ => rfl⟩
  have F_is_told_by := fun_mk (st := s_is_told_by) l_is_told_by c_is_told_by k_is_told_by
  have D_is_told_by : DefAt K mg "is_told_by" s_is_told_by pm_is_told_by := ⟨_, _, F_is_told_by, PySem.W.mg_of X G a_is_told_by, F_is_told_by.binds (ps := pm_is_told_by) fun _ _ _ _ _ _ us hl => match us, hl with | [_, _, _], _ => rfl⟩
  have F_check_heads := fun_mk (st := s_check_heads) l_check_heads c_check_heads k_check_heads
  have D_check_heads : DefAt K mg "check_heads" s_check_heads pm_check_heads := ⟨_, _, F_check_heads, PySem.W.mg_of X G a_check_heads, F_check_heads.binds (ps := pm_check_heads) fun _ _ _ _ _ _ us hl => match us, hl with | [_], _ => rfl⟩
  have F_is_word := fun_mk (st := s_is_word) l_is_word c_is_word k_is_word
  have D_is_word : DefAt K mg "is_word" s_is_word pm_is_word := ⟨_, _, F_is_word, PySem.W.mg_of X G a_is_word, F_is_word.binds (ps := pm_is_word) fun _ _ _ _ _ _ us hl => match us, hl with | [_], _ => rfl⟩
  have F_check_places := fun_mk (st := s_check_places) l_check_places c_check_places k_check_places
  have D_check_places : DefAt K mg "check_places" s_check_places pm_check_places := ⟨_, _, F_check_places, PySem.W.mg_of X G a_check_places, F_check_places.binds (ps := pm_check_places) fun _ _ _ _ _ _ us hl => match us, hl with | [_], _ => rfl⟩
  have F_next_of := fun_mk (st := s_next_of) l_next_of c_next_of k_next_of
  have D_next_of : DefAt K mg "next_of" s_next_of pm_next_of := ⟨_, _, F_next_of, PySem.W.mg_of X G a_next_of, F_next_of.binds (ps := pm_next_of) fun _ _ _ _ _ _ us hl => match us, hl with | [_, _], _ => rfl⟩
  have F_slots_behind := fun_mk (st := s_slots_behind) l_slots_behind c_slots_behind k_slots_behind
  have D_slots_behind : DefAt K mg "slots_behind" s_slots_behind pm_slots_behind := ⟨_, _, F_slots_behind, PySem.W.mg_of X G a_slots_behind, F_slots_behind.binds (ps := pm_slots_behind) fun _ _ _ _ _ _ us hl => match us, hl with | [_, _], _ => rfl⟩
  have F_read_head := fun_mk (st := s_read_head) l_read_head c_read_head k_read_head
  have D_read_head : DefAt K mg "read_head" s_read_head pm_read_head := ⟨_, _, F_read_head, PySem.W.mg_of X G a_read_head, F_read_head.binds (ps := pm_read_head) fun _ _ _ _ _ _ us hl => match us, hl with | [_, _], _ => rfl⟩
  have F_check_book := fun_mk (st := s_check_book) l_check_book c_check_book k_check_book
  have D_check_book : DefAt K mg "check_book" s_check_book pm_check_book := ⟨_, _, F_check_book, PySem.W.mg_of X G a_check_book, F_check_book.binds (ps := pm_check_book) fun _ _ _ _ _ _ us hl => match us, hl with | [_], _ => rfl⟩
  have F_write_heads := fun_mk (st := s_write_heads) l_write_heads c_write_heads k_write_heads
  have D_write_heads : DefAt K mg "write_heads" s_write_heads pm_write_heads := ⟨_, _, F_write_heads, PySem.W.mg_of X G a_write_heads, F_write_heads.binds (ps := pm_write_heads) fun _ _ _ _ _ _ us hl => match us, hl with | [_, _], _ => rfl⟩
  have F_read_words := fun_mk (st := s_read_words) l_read_words c_read_words k_read_words
  have D_read_words : DefAt K mg "read_words" s_read_words pm_read_words := ⟨_, _, F_read_words, PySem.W.mg_of X G a_read_words, F_read_words.binds (ps := pm_read_words) fun _ _ _ _ _ _ us hl => match us, hl with | [_, _], _ => rfl⟩
  have F_check_pair := fun_mk (st := s_check_pair) l_check_pair c_check_pair k_check_pair
  have D_check_pair : DefAt K mg "check_pair" s_check_pair pm_check_pair := ⟨_, _, F_check_pair, PySem.W.mg_of X G a_check_pair, F_check_pair.binds (ps := pm_check_pair) fun _ _ _ _ _ _ us hl => match us, hl with | [_, _], _ => rfl⟩
  have F_parting_words := fun_mk (st := s_parting_words) l_parting_words c_parting_words k_parting_words
  have D_parting_words : DefAt K mg "parting_words" s_parting_words pm_parting_words := ⟨_, _, F_parting_words, PySem.W.mg_of X G a_parting_words, F_parting_words.binds (ps := pm_parting_words) fun _ _ _ _ _ _ us hl => match us, hl with | [_, _], _ => rfl⟩
  have F_overwriting_words := fun_mk (st := s_overwriting_words) l_overwriting_words c_overwriting_words k_overwriting_words
  have D_overwriting_words : DefAt K mg "overwriting_words" s_overwriting_words pm_overwriting_words := ⟨_, _, F_overwriting_words, PySem.W.mg_of X G a_overwriting_words, F_overwriting_words.binds (ps := pm_overwriting_words) fun _ _ _ _ _ _ us hl => match us, hl with | [_, _], _ => rfl⟩
  have F_is_parting := fun_mk (st := s_is_parting) l_is_parting c_is_parting k_is_parting
  have D_is_parting : DefAt K mg "is_parting" s_is_parting pm_is_parting := ⟨_, _, F_is_parting, PySem.W.mg_of X G a_is_parting, F_is_parting.binds (ps := pm_is_parting) fun _ _ _ _ _ _ us hl => match us, hl with | [_, _, _], _ => rfl⟩
  have F__law_pool := fun_mk (st := s__law_pool) l__law_pool c__law_pool k__law_pool
  have D__law_pool : DefAt K mg "_law_pool" s__law_pool pm__law_pool := ⟨_, _, F__law_pool, PySem.W.mg_of X G a__law_pool, F__law_pool.binds (ps := pm__law_pool) fun _ _ _ _ _ _ us hl => match us, hl with | [_, _], _ => rfl⟩
  have F__law_draw := fun_mk (st := s__law_draw) l__law_draw c__law_draw k__law_draw
  have D__law_draw : DefAt K mg "_law_draw" s__law_draw pm__law_draw := ⟨_, _, F__law_draw, PySem.W.mg_of X G a__law_draw, F__law_draw.binds (ps := pm__law_draw) fun _ _ _ _ _ _ us hl => match us, hl with | [_, _], _ => rfl⟩
  have F__law_pick := fun_mk (st := s__law_pick) l__law_pick c__law_pick k__law_pick
  have D__law_pick : DefAt K mg "_law_pick" s__law_pick pm__law_pick := ⟨_, _, F__law_pick, PySem.W.mg_of X G a__law_pick, F__law_pick.binds (ps := pm__law_pick) fun _ _ _ _ _ _ us hl => match us, hl with | [_, _], _ => rfl⟩
  have F__law_heads := fun_mk (st := s__law_heads) l__law_heads c__law_heads k__law_heads
  have D__law_heads : DefAt K mg "_law_heads" s__law_heads pm__law_heads := ⟨_, _, F__law_heads, PySem.W.mg_of X G a__law_heads, F__law_heads.binds (ps := pm__law_heads) fun _ _ _ _ _ _ us hl => match us, hl with | [_, _, _], _ => rfl⟩
  have F__law_called := fun_mk (st := s__law_called) l__law_called c__law_called k__law_called
  have D__law_called : DefAt K mg "_law_called" s__law_called pm__law_called := ⟨_, _, F__law_called, PySem.W.mg_of X G a__law_called, F__law_called.binds (ps := pm__law_called) fun _ _ _ _ _ _ us hl => match us, hl with | [_, _, _], _ => rfl⟩
  have F__law_refused := fun_mk (st := s__law_refused) l__law_refused c__law_refused k__law_refused
  have D__law_refused : DefAt K mg "_law_refused" s__law_refused pm__law_refused := ⟨_, _, F__law_refused, PySem.W.mg_of X G a__law_refused, F__law_refused.binds (ps := pm__law_refused) fun _ _ _ _ _ _ us hl => match us, hl with | [_, _, _], _ => rfl⟩
  have F__law_words_refused := fun_mk (st := s__law_words_refused) l__law_words_refused c__law_words_refused k__law_words_refused
  have D__law_words_refused : DefAt K mg "_law_words_refused" s__law_words_refused pm__law_words_refused := ⟨_, _, F__law_words_refused, PySem.W.mg_of X G a__law_words_refused, F__law_words_refused.binds (ps := pm__law_words_refused) fun _ _ _ _ _ _ us hl => match us, hl with | [_, _, _], _ => rfl⟩
  have F_BadPart_init := fun_mk (st := s_BadPart_init) l_BadPart_init c_BadPart_init k_BadPart_init
  have F_BadName_init := fun_mk (st := s_BadName_init) l_BadName_init c_BadName_init k_BadName_init
  have F_BadHead_init := fun_mk (st := s_BadHead_init) l_BadHead_init c_BadHead_init k_BadHead_init
  have F_BadWord_init := fun_mk (st := s_BadWord_init) l_BadWord_init c_BadWord_init k_BadWord_init
  have F_BadWords_init := fun_mk (st := s_BadWords_init) l_BadWords_init c_BadWords_init k_BadWords_init
  have FI : FunD K "__init__" "Book.__init__" (defArgs s_Book_init) (defBody s_Book_init) (defScope s_Book_init) [.ref AT0] [] f_Book_init _ := ⟨⟨_, _, _, _, _, _, _, _, _, _, rfl, l_Book_init, c_Book_init, .inr ⟨(fun z => nomatch z), Td, _, [.ref AT0], dn, rfl, d_T, rfl, .cons rfl .nil⟩, .inl rfl⟩, k_Book_init⟩
  obtain ⟨d4, v4, B4⟩ := FI.binds1 (ps := pm_Book_init) 3 1 (fun z => nomatch z) rfl (fun T kV doc pm an cdv ct us its hu hi => match us, hu, its, hi with | [_, _, _], _, [_], _ => ⟨_, rfl, rfl⟩)
  obtain ⟨d3, v3, B3⟩ := FI.binds1 (ps := pm_Book_init) 2 0 (fun z => nomatch z) rfl (fun T kV doc pm an cdv ct us its hu hi => match us, hu, its, hi with | [_, _], _, [_], _ => ⟨_, rfl, rfl⟩)
  cases v4
  have F_Book_held := fun_mk (st := s_Book_held) l_Book_held c_Book_held k_Book_held
  have M_Book_held : MethAt K ABook "held" "Book.held" s_Book_held pm_Book_held := ⟨_, _, F_Book_held, a_Book_held, i_Book_held, F_Book_held.binds (ps := pm_Book_held) fun _ _ _ _ _ _ us hl => match us, hl with | [_], _ => rfl⟩
  have F_Book_oldest_first := fun_mk (st := s_Book_oldest_first) l_Book_oldest_first c_Book_oldest_first k_Book_oldest_first
  have M_Book_oldest_first : MethAt K ABook "oldest_first" "Book.oldest_first" s_Book_oldest_first pm_Book_oldest_first := ⟨_, _, F_Book_oldest_first, a_Book_oldest_first, i_Book_oldest_first, F_Book_oldest_first.binds (ps := pm_Book_oldest_first) fun _ _ _ _ _ _ us hl => match us, hl with | [_], _ => rfl⟩
  have F_Book_place_of := fun_mk (st := s_Book_place_of) l_Book_place_of c_Book_place_of k_Book_place_of
  have M_Book_place_of : MethAt K ABook "place_of" "Book.place_of" s_Book_place_of pm_Book_place_of := ⟨_, _, F_Book_place_of, a_Book_place_of, i_Book_place_of, F_Book_place_of.binds (ps := pm_Book_place_of) fun _ _ _ _ _ _ us hl => match us, hl with | [_, _], _ => rfl⟩
  have F_Book_used := fun_mk (st := s_Book_used) l_Book_used c_Book_used k_Book_used
  have M_Book_used : MethAt K ABook "used" "Book.used" s_Book_used pm_Book_used := ⟨_, _, F_Book_used, a_Book_used, i_Book_used, F_Book_used.binds (ps := pm_Book_used) fun _ _ _ _ _ _ us hl => match us, hl with | [_, _], _ => rfl⟩
  have F_Book_word_for := fun_mk (st := s_Book_word_for) l_Book_word_for c_Book_word_for k_Book_word_for
  have M_Book_word_for : MethAt K ABook "word_for" "Book.word_for" s_Book_word_for pm_Book_word_for := ⟨_, _, F_Book_word_for, a_Book_word_for, i_Book_word_for, F_Book_word_for.binds (ps := pm_Book_word_for) fun _ _ _ _ _ _ us hl => match us, hl with | [_, _], _ => rfl⟩
  have F_Book_head_for := fun_mk (st := s_Book_head_for) l_Book_head_for c_Book_head_for k_Book_head_for
  have M_Book_head_for : MethAt K ABook "head_for" "Book.head_for" s_Book_head_for pm_Book_head_for := ⟨_, _, F_Book_head_for, a_Book_head_for, i_Book_head_for, F_Book_head_for.binds (ps := pm_Book_head_for) fun _ _ _ _ _ _ us hl => match us, hl with | [_, _], _ => rfl⟩
  have F_Book_contains := fun_mk (st := s_Book_contains) l_Book_contains c_Book_contains k_Book_contains
  have M_Book_contains : MethAt K ABook "__contains__" "Book.__contains__" s_Book_contains pm_Book_contains := ⟨_, _, F_Book_contains, a_Book_contains, i_Book_contains, F_Book_contains.binds (ps := pm_Book_contains) fun _ _ _ _ _ _ us hl => match us, hl with | [_, _], _ => rfl⟩
  have F_Book_len := fun_mk (st := s_Book_len) l_Book_len c_Book_len k_Book_len
  have M_Book_len : MethAt K ABook "__len__" "Book.__len__" s_Book_len pm_Book_len := ⟨_, _, F_Book_len, a_Book_len, i_Book_len, F_Book_len.binds (ps := pm_Book_len) fun _ _ _ _ _ _ us hl => match us, hl with | [_], _ => rfl⟩
  have F_Book_eq := fun_mk (st := s_Book_eq) l_Book_eq c_Book_eq k_Book_eq
  have M_Book_eq : MethAt K ABook "__eq__" "Book.__eq__" s_Book_eq pm_Book_eq := ⟨_, _, F_Book_eq, a_Book_eq, i_Book_eq, F_Book_eq.binds (ps := pm_Book_eq) fun _ _ _ _ _ _ us hl => match us, hl with | [_, _], _ => rfl⟩
  have T : Txt K mg ⟨ABadPart, ABadName, ABadHead, ABadWord, ABadWords, AWholeError, ABook, AT0⟩ :=
    { n_isinstance := PySem.W.mg_none_of X G n_isinstance,
      n_int := PySem.W.mg_none_of X G n_int,
      n_bool := PySem.W.mg_none_of X G n_bool,
      n_str := PySem.W.mg_none_of X G n_str,
      n_list := PySem.W.mg_none_of X G n_list,
      n_tuple := PySem.W.mg_none_of X G n_tuple,
      n_len := PySem.W.mg_none_of X G n_len,
      n_range := PySem.W.mg_none_of X G n_range,
      n_enumerate := PySem.W.mg_none_of X G n_enumerate,
      n_all := PySem.W.mg_none_of X G n_all,
      n_abs := PySem.W.mg_none_of X G n_abs,
      n_sum := PySem.W.mg_none_of X G n_sum,
      n_repr := PySem.W.mg_none_of X G n_repr,
      n_zip := PySem.W.mg_none_of X G n_zip,
      g_MOST_PLACES := ⟨_, PySem.W.mg_of X G v_MOST_PLACES⟩,
      g_ALPHABET := ⟨_, PySem.W.mg_of X G v_ALPHABET⟩,
      Book := ⟨PySem.W.mg_of X G g_Book, ⟨pg_Book, hd_Book, po_Book, sa_Book⟩, ha_Book, s_hn, s_tk, hm_Book, ne_Book, is_Book, ty_Book, tup_Book, lst_Book, int_Book, str_Book⟩,
      b_places := na_Book_places,
      b_slots := na_Book_slots,
      b_order := na_Book_order,
      BadPart := ⟨⟨⟨_, _, _, _, _, _, _, _, _, _, _, _, _, _, _, xBadPart_L, ve_one⟩, xBadPart_sa, xBadPart_ex, xBadPart_ty, xBadPart_kC⟩, PySem.W.mg_of X G g_BadPart, xBadPart_noA, ⟨xBadPart_hg, xBadPart_hk, xBadPart_ex, xBadPart_hd, xBadPart_ha, s_hn, s_tk, xBadPart_hm⟩, _, a_BadPart_init, i_BadPart_init, _, F_BadPart_init, F_BadPart_init.binds (ps := ["self", "part"]) fun _ _ _ _ _ _ us hl => match us, hl with | [_, _], _ => rfl⟩,
      BadName := ⟨⟨⟨_, _, _, _, _, _, _, _, _, _, _, _, _, _, _, xBadName_L, ve_one⟩, xBadName_sa, xBadName_ex, xBadName_ty, xBadName_kC⟩, PySem.W.mg_of X G g_BadName, xBadName_noA, ⟨xBadName_hg, xBadName_hk, xBadName_ex, xBadName_hd, xBadName_ha, s_hn, s_tk, xBadName_hm⟩, _, a_BadName_init, i_BadName_init, _, F_BadName_init, F_BadName_init.binds (ps := ["self", "name"]) fun _ _ _ _ _ _ us hl => match us, hl with | [_, _], _ => rfl⟩,
      BadHead := ⟨⟨⟨_, _, _, _, _, _, _, _, _, _, _, _, _, _, _, xBadHead_L, ve_one⟩, xBadHead_sa, xBadHead_ex, xBadHead_ty, xBadHead_kC⟩, PySem.W.mg_of X G g_BadHead, xBadHead_noA, ⟨xBadHead_hg, xBadHead_hk, xBadHead_ex, xBadHead_hd, xBadHead_ha, s_hn, s_tk, xBadHead_hm⟩, _, a_BadHead_init, i_BadHead_init, _, F_BadHead_init, F_BadHead_init.binds (ps := ["self", "index"]) fun _ _ _ _ _ _ us hl => match us, hl with | [_, _], _ => rfl⟩,
      BadWord := ⟨⟨⟨_, _, _, _, _, _, _, _, _, _, _, _, _, _, _, xBadWord_L, ve_one⟩, xBadWord_sa, xBadWord_ex, xBadWord_ty, xBadWord_kC⟩, PySem.W.mg_of X G g_BadWord, xBadWord_noA, ⟨xBadWord_hg, xBadWord_hk, xBadWord_ex, xBadWord_hd, xBadWord_ha, s_hn, s_tk, xBadWord_hm⟩, _, a_BadWord_init, i_BadWord_init, _, F_BadWord_init, F_BadWord_init.binds (ps := ["self", "word"]) fun _ _ _ _ _ _ us hl => match us, hl with | [_, _], _ => rfl⟩,
      BadWords := ⟨⟨⟨_, _, _, _, _, _, _, _, _, _, _, _, _, _, _, xBadWords_L, ve_one⟩, xBadWords_sa, xBadWords_ex, xBadWords_ty, xBadWords_kC⟩, PySem.W.mg_of X G g_BadWords, xBadWords_noA, ⟨xBadWords_hg, xBadWords_hk, xBadWords_ex, xBadWords_hd, xBadWords_ha, s_hn, s_tk, xBadWords_hm⟩, _, a_BadWords_init, i_BadWords_init, _, F_BadWords_init, F_BadWords_init.binds (ps := ["self", "index"]) fun _ _ _ _ _ _ us hl => match us, hl with | [_, _], _ => rfl⟩,
      x_pp := exm_ref xBadPart_ex xBadPart_is xBadPart_ty xBadPart_ss,
      x_hp := exm_ref xBadPart_ex xBadPart_is xBadPart_ty xo_BadHead_BadPart,
      x_hh := exm_ref xBadHead_ex xBadHead_is xBadHead_ty xBadHead_ss,
      x_np := exm_ref xBadPart_ex xBadPart_is xBadPart_ty xo_BadName_BadPart,
      x_nh := exm_ref xBadHead_ex xBadHead_is xBadHead_ty xo_BadName_BadHead,
      x_nn := exm_ref xBadName_ex xBadName_is xBadName_ty xBadName_ss,
      x_wp := exm_ref xBadPart_ex xBadPart_is xBadPart_ty xo_BadWord_BadPart,
      x_wh := exm_ref xBadHead_ex xBadHead_is xBadHead_ty xo_BadWord_BadHead,
      x_wn := exm_ref xBadName_ex xBadName_is xBadName_ty xo_BadWord_BadName,
      x_ww := exm_ref xBadWord_ex xBadWord_is xBadWord_ty xBadWord_ss,
      x_sp := exm_ref xBadPart_ex xBadPart_is xBadPart_ty xo_BadWords_BadPart,
      x_sh := exm_ref xBadHead_ex xBadHead_is xBadHead_ty xo_BadWords_BadHead,
      x_sn := exm_ref xBadName_ex xBadName_is xBadName_ty xo_BadWords_BadName,
      x_sw := exm_ref xBadWord_ex xBadWord_is xBadWord_ty xo_BadWords_BadWord,
      x_ss := exm_ref xBadWords_ex xBadWords_is xBadWords_ty xBadWords_ss,
      t0 := fun H => .inr ⟨_, #[], en, d_0, rfl, rfl, Nat.zero_le _, .nil⟩ }
  exact ⟨PySem.W.fnOf "law" "law" (defArgs s_law) (defBody s_law) (defScope s_law) .none kV_law dc_law pm_law_ an_law cd_law ct_law, fun s v => .of_eq rfl, fun base _ _ =>
    law_ok T D_is_integer D_is_between D_is_index D_is_list D_is_name D_is_tuple_of D_is_told_by D_check_heads D_is_word D_check_places D_next_of D_slots_behind D_read_head D_check_book D_write_heads D_read_words D_check_pair D_parting_words D_overwriting_words D_is_parting D__law_pool D__law_draw D__law_pick D__law_heads D__law_called D__law_refused D__law_words_refused M_Book_held M_Book_oldest_first M_Book_place_of M_Book_used M_Book_word_for M_Book_head_for M_Book_contains M_Book_len M_Book_eq  FI ⟨mk_Book, a_Book_init, i_Book_init, kc_Book⟩ B4 v3 B3 (fun_mk (st := s_law) l_law c_law k_law)⟩
theorem walk {l : PySem.W.OpenLaw} {q : Program} {loose : List Str} {XP : (Str → Option Value) → Heap → Prop} {YP : World → Heap → Prop} {d : DefRec} {K : Params → PySem.W.Frag} (hn : l.most = some 63) (hdf : d.params.defaults = [])
    (hY : ∀ (w : World) (h : Heap), YP w h → (K w.params).In h)
    (F : ∀ (w : World) (mg : Str → Option Value) (fa : Addr) (h : Heap), (K w.params).In h → h.Ns mainGlobals mg → mg d.name = some (.ref fa) →
      ∃ fd : FuncData, (∀ (s : Shared) (u : Value), BindsTo s fd ⟨[u], []⟩ [("_law_script", u)]) ∧ ∀ base : Heap, (K w.params).In base → base.Ns mainGlobals mg → FnClr l.prog w (K w.params) mg base CX0 13 fa fd ["_law_script"] (spLaw (K w.params))) :
    PySem.W.WalkO q loose XP YP l.row.toRowW d [] (fun f vs => PySem.call f vs) :=
  L2.walk_ofClr (n := 63) (k := 13) (x := "_law_script") (CX := fun _ => CX0) (sp := fun w => spLaw (K w.params)) hn (by decide) hdf ⟨rfl, by decide, by decide⟩ hY F (fun _ _ a ns hl hS => ⟨a, ns, rfl, hS, hl, fun _ => rfl⟩) fun _ _ _ _ _ z => z
end K03

open PySem PySem.W PyProof.Rows in
set_option maxRecDepth 100000 in
set_option maxHeartbeats 0 in
theorem PySem.Challenge.cw_wholeline_k03_books_refused_holds : PySem.Challenge.rw_wholeline_k03_books_refused.Holds := by
  w_on; o_law; k_head; (case hw => w_witness2)
  k_fill
  refine K03.walk (l := PySem.Challenge.rw_wholeline_k03_books_refused) rfl rfl (fun w h Y => PySem.W.kIn_of Y) ?F
  case F =>
    intro w mg fa h KX G hmg
    refine' K03.all_mk KX G hmg ?q_g_BadPart ?q_g_BadName ?q_g_BadHead ?q_g_BadWord ?q_g_BadWords ?q_g_WholeError ?q_g_Book ?q_a_is_integer ?q_l_is_integer ?q_c_is_integer ?q_k_is_integer ?q_a_is_between ?q_l_is_between ?q_c_is_between ?q_k_is_between ?q_a_is_index ?q_l_is_index ?q_c_is_index ?q_k_is_index ?q_a_is_list ?q_l_is_list ?q_c_is_list ?q_k_is_list ?q_a_is_name ?q_l_is_name ?q_c_is_name ?q_k_is_name ?q_a_is_tuple_of ?q_l_is_tuple_of ?q_c_is_tuple_of ?q_k_is_tuple_of ?q_a_is_told_by ?q_l_is_told_by ?q_c_is_told_by ?q_k_is_told_by ?q_a_check_heads ?q_l_check_heads ?q_c_check_heads ?q_k_check_heads ?q_a_is_word ?q_l_is_word ?q_c_is_word ?q_k_is_word ?q_a_check_places ?q_l_check_places ?q_c_check_places ?q_k_check_places ?q_a_next_of ?q_l_next_of ?q_c_next_of ?q_k_next_of ?q_a_slots_behind ?q_l_slots_behind ?q_c_slots_behind ?q_k_slots_behind ?q_a_read_head ?q_l_read_head ?q_c_read_head ?q_k_read_head ?q_a_check_book ?q_l_check_book ?q_c_check_book ?q_k_check_book ?q_a_write_heads ?q_l_write_heads ?q_c_write_heads ?q_k_write_heads ?q_a_read_words ?q_l_read_words ?q_c_read_words ?q_k_read_words ?q_a_check_pair ?q_l_check_pair ?q_c_check_pair ?q_k_check_pair ?q_a_parting_words ?q_l_parting_words ?q_c_parting_words ?q_k_parting_words ?q_a_overwriting_words ?q_l_overwriting_words ?q_c_overwriting_words ?q_k_overwriting_words ?q_a_is_parting ?q_l_is_parting ?q_c_is_parting ?q_k_is_parting ?q_a__law_pool ?q_l__law_pool ?q_c__law_pool ?q_k__law_pool ?q_a__law_draw ?q_l__law_draw ?q_c__law_draw ?q_k__law_draw ?q_a__law_pick ?q_l__law_pick ?q_c__law_pick ?q_k__law_pick ?q_a__law_heads ?q_l__law_heads ?q_c__law_heads ?q_k__law_heads ?q_a__law_called ?q_l__law_called ?q_c__law_called ?q_k__law_called ?q_a__law_refused ?q_l__law_refused ?q_c__law_refused ?q_k__law_refused ?q_a__law_words_refused ?q_l__law_words_refused ?q_c__law_words_refused ?q_k__law_words_refused ?q_a_law ?q_l_law ?q_c_law ?q_k_law ?q_a_BadPart_init ?q_i_BadPart_init ?q_l_BadPart_init ?q_c_BadPart_init ?q_k_BadPart_init ?q_a_BadName_init ?q_i_BadName_init ?q_l_BadName_init ?q_c_BadName_init ?q_k_BadName_init ?q_a_BadHead_init ?q_i_BadHead_init ?q_l_BadHead_init ?q_c_BadHead_init ?q_k_BadHead_init ?q_a_BadWord_init ?q_i_BadWord_init ?q_l_BadWord_init ?q_c_BadWord_init ?q_k_BadWord_init ?q_a_BadWords_init ?q_i_BadWords_init ?q_l_BadWords_init ?q_c_BadWords_init ?q_k_BadWords_init ?q_a_Book_init ?q_i_Book_init ?q_l_Book_init ?q_c_Book_init ?q_k_Book_init ?q_a_Book_held ?q_i_Book_held ?q_l_Book_held ?q_c_Book_held ?q_k_Book_held ?q_a_Book_oldest_first ?q_i_Book_oldest_first ?q_l_Book_oldest_first ?q_c_Book_oldest_first ?q_k_Book_oldest_first ?q_a_Book_place_of ?q_i_Book_place_of ?q_l_Book_place_of ?q_c_Book_place_of ?q_k_Book_place_of ?q_a_Book_used ?q_i_Book_used ?q_l_Book_used ?q_c_Book_used ?q_k_Book_used ?q_a_Book_word_for ?q_i_Book_word_for ?q_l_Book_word_for ?q_c_Book_word_for ?q_k_Book_word_for ?q_a_Book_head_for ?q_i_Book_head_for ?q_l_Book_head_for ?q_c_Book_head_for ?q_k_Book_head_for ?q_a_Book_contains ?q_i_Book_contains ?q_l_Book_contains ?q_c_Book_contains ?q_k_Book_contains ?q_a_Book_len ?q_i_Book_len ?q_l_Book_len ?q_c_Book_len ?q_k_Book_len ?q_a_Book_eq ?q_i_Book_eq ?q_l_Book_eq ?q_c_Book_eq ?q_k_Book_eq ?q_d_T ?q_d_0 ?q_n_isinstance ?q_n_int ?q_n_bool ?q_n_str ?q_n_list ?q_n_tuple ?q_n_len ?q_n_range ?q_n_enumerate ?q_n_all ?q_n_abs ?q_n_sum ?q_n_repr ?q_n_zip ?q_v_MOST_PLACES ?q_v_ALPHABET ?q_s_hn ?q_s_tk ?q_pg_Book ?q_hd_Book ?q_po_Book ?q_sa_Book ?q_ha_Book ?q_hm_Book ?q_ne_Book ?q_is_Book ?q_ty_Book ?q_tup_Book ?q_lst_Book ?q_int_Book ?q_str_Book ?q_mk_Book ?q_kc_Book ?q_na_Book_places ?q_na_Book_slots ?q_na_Book_order ?q_xBadPart_L ?q_xBadPart_sa ?q_xBadPart_ex ?q_xBadPart_ty ?q_xBadPart_kC ?q_xBadPart_noA ?q_xBadPart_hg ?q_xBadPart_hk ?q_xBadPart_hd ?q_xBadPart_ha ?q_xBadPart_hm ?q_xBadPart_is ?q_xBadPart_ss ?q_xBadPart_w ?q_xBadName_L ?q_xBadName_sa ?q_xBadName_ex ?q_xBadName_ty ?q_xBadName_kC ?q_xBadName_noA ?q_xBadName_hg ?q_xBadName_hk ?q_xBadName_hd ?q_xBadName_ha ?q_xBadName_hm ?q_xBadName_is ?q_xBadName_ss ?q_xBadName_w ?q_xBadHead_L ?q_xBadHead_sa ?q_xBadHead_ex ?q_xBadHead_ty ?q_xBadHead_kC ?q_xBadHead_noA ?q_xBadHead_hg ?q_xBadHead_hk ?q_xBadHead_hd ?q_xBadHead_ha ?q_xBadHead_hm ?q_xBadHead_is ?q_xBadHead_ss ?q_xBadHead_w ?q_xBadWord_L ?q_xBadWord_sa ?q_xBadWord_ex ?q_xBadWord_ty ?q_xBadWord_kC ?q_xBadWord_noA ?q_xBadWord_hg ?q_xBadWord_hk ?q_xBadWord_hd ?q_xBadWord_ha ?q_xBadWord_hm ?q_xBadWord_is ?q_xBadWord_ss ?q_xBadWord_w ?q_xBadWords_L ?q_xBadWords_sa ?q_xBadWords_ex ?q_xBadWords_ty ?q_xBadWords_kC ?q_xBadWords_noA ?q_xBadWords_hg ?q_xBadWords_hk ?q_xBadWords_hd ?q_xBadWords_ha ?q_xBadWords_hm ?q_xBadWords_is ?q_xBadWords_ss ?q_xBadWords_w ?q_xo_BadHead_BadPart ?q_xo_BadName_BadPart ?q_xo_BadName_BadHead ?q_xo_BadWord_BadPart ?q_xo_BadWord_BadHead ?q_xo_BadWord_BadName ?q_xo_BadWords_BadPart ?q_xo_BadWords_BadHead ?q_xo_BadWords_BadName ?q_xo_BadWords_BadWord ?q_xw_i ?q_xw_t ?q_xw_b
    (case q_g_BadPart => k_is)
    (case q_g_BadName => k_is)
    (case q_g_BadHead => k_is)
    (case q_g_BadWord => k_is)
    (case q_g_BadWords => k_is)
    (case q_g_WholeError => k_is)
    (case q_g_Book => k_is)
    (case q_a_is_integer => k_is)
    (case q_l_is_integer => k_is)
    (case q_c_is_integer => k_is)
    (case q_k_is_integer => k_is)
    (case q_a_is_between => k_is)
    (case q_l_is_between => k_is)
    (case q_c_is_between => k_is)
    (case q_k_is_between => k_is)
    (case q_a_is_index => k_is)
    (case q_l_is_index => k_is)
    (case q_c_is_index => k_is)
    (case q_k_is_index => k_is)
    (case q_a_is_list => k_is)
    (case q_l_is_list => k_is)
    (case q_c_is_list => k_is)
    (case q_k_is_list => k_is)
    (case q_a_is_name => k_is)
    (case q_l_is_name => k_is)
    (case q_c_is_name => k_is)
    (case q_k_is_name => k_is)
    (case q_a_is_tuple_of => k_is)
    (case q_l_is_tuple_of => k_is)
    (case q_c_is_tuple_of => k_is)
    (case q_k_is_tuple_of => k_is)
    (case q_a_is_told_by => k_is)
    (case q_l_is_told_by => k_is)
    (case q_c_is_told_by => k_is)
    (case q_k_is_told_by => k_is)
    (case q_a_check_heads => k_is)
    (case q_l_check_heads => k_is)
    (case q_c_check_heads => k_is)
    (case q_k_check_heads => k_is)
    (case q_a_is_word => k_is)
    (case q_l_is_word => k_is)
    (case q_c_is_word => k_is)
    (case q_k_is_word => k_is)
    (case q_a_check_places => k_is)
    (case q_l_check_places => k_is)
    (case q_c_check_places => k_is)
    (case q_k_check_places => k_is)
    (case q_a_next_of => k_is)
    (case q_l_next_of => k_is)
    (case q_c_next_of => k_is)
    (case q_k_next_of => k_is)
    (case q_a_slots_behind => k_is)
    (case q_l_slots_behind => k_is)
    (case q_c_slots_behind => k_is)
    (case q_k_slots_behind => k_is)
    (case q_a_read_head => k_is)
    (case q_l_read_head => k_is)
    (case q_c_read_head => k_is)
    (case q_k_read_head => k_is)
    (case q_a_check_book => k_is)
    (case q_l_check_book => k_is)
    (case q_c_check_book => k_is)
    (case q_k_check_book => k_is)
    (case q_a_write_heads => k_is)
    (case q_l_write_heads => k_is)
    (case q_c_write_heads => k_is)
    (case q_k_write_heads => k_is)
    (case q_a_read_words => k_is)
    (case q_l_read_words => k_is)
    (case q_c_read_words => k_is)
    (case q_k_read_words => k_is)
    (case q_a_check_pair => k_is)
    (case q_l_check_pair => k_is)
    (case q_c_check_pair => k_is)
    (case q_k_check_pair => k_is)
    (case q_a_parting_words => k_is)
    (case q_l_parting_words => k_is)
    (case q_c_parting_words => k_is)
    (case q_k_parting_words => k_is)
    (case q_a_overwriting_words => k_is)
    (case q_l_overwriting_words => k_is)
    (case q_c_overwriting_words => k_is)
    (case q_k_overwriting_words => k_is)
    (case q_a_is_parting => k_is)
    (case q_l_is_parting => k_is)
    (case q_c_is_parting => k_is)
    (case q_k_is_parting => k_is)
    (case q_a__law_pool => k_is)
    (case q_l__law_pool => k_is)
    (case q_c__law_pool => k_is)
    (case q_k__law_pool => k_is)
    (case q_a__law_draw => k_is)
    (case q_l__law_draw => k_is)
    (case q_c__law_draw => k_is)
    (case q_k__law_draw => k_is)
    (case q_a__law_pick => k_is)
    (case q_l__law_pick => k_is)
    (case q_c__law_pick => k_is)
    (case q_k__law_pick => k_is)
    (case q_a__law_heads => k_is)
    (case q_l__law_heads => k_is)
    (case q_c__law_heads => k_is)
    (case q_k__law_heads => k_is)
    (case q_a__law_called => k_is)
    (case q_l__law_called => k_is)
    (case q_c__law_called => k_is)
    (case q_k__law_called => k_is)
    (case q_a__law_refused => k_is)
    (case q_l__law_refused => k_is)
    (case q_c__law_refused => k_is)
    (case q_k__law_refused => k_is)
    (case q_a__law_words_refused => k_is)
    (case q_l__law_words_refused => k_is)
    (case q_c__law_words_refused => k_is)
    (case q_k__law_words_refused => k_is)
    (case q_a_law => k_is)
    (case q_l_law => k_is)
    (case q_c_law => k_is)
    (case q_k_law => k_is)
    (case q_a_BadPart_init => k_is)
    (case q_i_BadPart_init => k_is)
    (case q_l_BadPart_init => k_is)
    (case q_c_BadPart_init => k_is)
    (case q_k_BadPart_init => k_is)
    (case q_a_BadName_init => k_is)
    (case q_i_BadName_init => k_is)
    (case q_l_BadName_init => k_is)
    (case q_c_BadName_init => k_is)
    (case q_k_BadName_init => k_is)
    (case q_a_BadHead_init => k_is)
    (case q_i_BadHead_init => k_is)
    (case q_l_BadHead_init => k_is)
    (case q_c_BadHead_init => k_is)
    (case q_k_BadHead_init => k_is)
    (case q_a_BadWord_init => k_is)
    (case q_i_BadWord_init => k_is)
    (case q_l_BadWord_init => k_is)
    (case q_c_BadWord_init => k_is)
    (case q_k_BadWord_init => k_is)
    (case q_a_BadWords_init => k_is)
    (case q_i_BadWords_init => k_is)
    (case q_l_BadWords_init => k_is)
    (case q_c_BadWords_init => k_is)
    (case q_k_BadWords_init => k_is)
    (case q_a_Book_init => k_is)
    (case q_i_Book_init => k_is)
    (case q_l_Book_init => k_is)
    (case q_c_Book_init => k_is)
    (case q_k_Book_init => k_is)
    (case q_a_Book_held => k_is)
    (case q_i_Book_held => k_is)
    (case q_l_Book_held => k_is)
    (case q_c_Book_held => k_is)
    (case q_k_Book_held => k_is)
    (case q_a_Book_oldest_first => k_is)
    (case q_i_Book_oldest_first => k_is)
    (case q_l_Book_oldest_first => k_is)
    (case q_c_Book_oldest_first => k_is)
    (case q_k_Book_oldest_first => k_is)
    (case q_a_Book_place_of => k_is)
    (case q_i_Book_place_of => k_is)
    (case q_l_Book_place_of => k_is)
    (case q_c_Book_place_of => k_is)
    (case q_k_Book_place_of => k_is)
    (case q_a_Book_used => k_is)
    (case q_i_Book_used => k_is)
    (case q_l_Book_used => k_is)
    (case q_c_Book_used => k_is)
    (case q_k_Book_used => k_is)
    (case q_a_Book_word_for => k_is)
    (case q_i_Book_word_for => k_is)
    (case q_l_Book_word_for => k_is)
    (case q_c_Book_word_for => k_is)
    (case q_k_Book_word_for => k_is)
    (case q_a_Book_head_for => k_is)
    (case q_i_Book_head_for => k_is)
    (case q_l_Book_head_for => k_is)
    (case q_c_Book_head_for => k_is)
    (case q_k_Book_head_for => k_is)
    (case q_a_Book_contains => k_is)
    (case q_i_Book_contains => k_is)
    (case q_l_Book_contains => k_is)
    (case q_c_Book_contains => k_is)
    (case q_k_Book_contains => k_is)
    (case q_a_Book_len => k_is)
    (case q_i_Book_len => k_is)
    (case q_l_Book_len => k_is)
    (case q_c_Book_len => k_is)
    (case q_k_Book_len => k_is)
    (case q_a_Book_eq => k_is)
    (case q_i_Book_eq => k_is)
    (case q_l_Book_eq => k_is)
    (case q_c_Book_eq => k_is)
    (case q_k_Book_eq => k_is)
    (case q_d_T => k_is)
    (case q_d_0 => k_is)
    (case q_n_isinstance => k_is)
    (case q_n_int => k_is)
    (case q_n_bool => k_is)
    (case q_n_str => k_is)
    (case q_n_list => k_is)
    (case q_n_tuple => k_is)
    (case q_n_len => k_is)
    (case q_n_range => k_is)
    (case q_n_enumerate => k_is)
    (case q_n_all => k_is)
    (case q_n_abs => k_is)
    (case q_n_sum => k_is)
    (case q_n_repr => k_is)
    (case q_n_zip => k_is)
    (case q_v_MOST_PLACES => k_is)
    (case q_v_ALPHABET => k_is)
    (case q_s_hn => k_is)
    (case q_s_tk => k_is)
    (case q_pg_Book => k_is)
    (case q_hd_Book => k_is)
    (case q_po_Book => k_is)
    (case q_sa_Book => k_is)
    (case q_ha_Book => k_is)
    (case q_hm_Book => k_is)
    (case q_ne_Book => k_is)
    (case q_is_Book => k_is)
    (case q_ty_Book => k_is)
    (case q_tup_Book => k_is)
    (case q_lst_Book => k_is)
    (case q_int_Book => k_is)
    (case q_str_Book => k_is)
    (case q_mk_Book => k_is)
    (case q_kc_Book => k_is)
    (case q_na_Book_places => k_is)
    (case q_na_Book_slots => k_is)
    (case q_na_Book_order => k_is)
    (case q_xBadPart_L => k_is)
    (case q_xBadPart_sa => k_is)
    (case q_xBadPart_ex => k_is)
    (case q_xBadPart_ty => k_is)
    (case q_xBadPart_kC => k_is)
    (case q_xBadPart_noA => k_is)
    (case q_xBadPart_hg => k_is)
    (case q_xBadPart_hk => k_is)
    (case q_xBadPart_hd => k_is)
    (case q_xBadPart_ha => k_is)
    (case q_xBadPart_hm => k_is)
    (case q_xBadPart_is => k_is)
    (case q_xBadPart_ss => k_is)
    (case q_xBadPart_w => k_is)
    (case q_xBadName_L => k_is)
    (case q_xBadName_sa => k_is)
    (case q_xBadName_ex => k_is)
    (case q_xBadName_ty => k_is)
    (case q_xBadName_kC => k_is)
    (case q_xBadName_noA => k_is)
    (case q_xBadName_hg => k_is)
    (case q_xBadName_hk => k_is)
    (case q_xBadName_hd => k_is)
    (case q_xBadName_ha => k_is)
    (case q_xBadName_hm => k_is)
    (case q_xBadName_is => k_is)
    (case q_xBadName_ss => k_is)
    (case q_xBadName_w => k_is)
    (case q_xBadHead_L => k_is)
    (case q_xBadHead_sa => k_is)
    (case q_xBadHead_ex => k_is)
    (case q_xBadHead_ty => k_is)
    (case q_xBadHead_kC => k_is)
    (case q_xBadHead_noA => k_is)
    (case q_xBadHead_hg => k_is)
    (case q_xBadHead_hk => k_is)
    (case q_xBadHead_hd => k_is)
    (case q_xBadHead_ha => k_is)
    (case q_xBadHead_hm => k_is)
    (case q_xBadHead_is => k_is)
    (case q_xBadHead_ss => k_is)
    (case q_xBadHead_w => k_is)
    (case q_xBadWord_L => k_is)
    (case q_xBadWord_sa => k_is)
    (case q_xBadWord_ex => k_is)
    (case q_xBadWord_ty => k_is)
    (case q_xBadWord_kC => k_is)
    (case q_xBadWord_noA => k_is)
    (case q_xBadWord_hg => k_is)
    (case q_xBadWord_hk => k_is)
    (case q_xBadWord_hd => k_is)
    (case q_xBadWord_ha => k_is)
    (case q_xBadWord_hm => k_is)
    (case q_xBadWord_is => k_is)
    (case q_xBadWord_ss => k_is)
    (case q_xBadWord_w => k_is)
    (case q_xBadWords_L => k_is)
    (case q_xBadWords_sa => k_is)
    (case q_xBadWords_ex => k_is)
    (case q_xBadWords_ty => k_is)
    (case q_xBadWords_kC => k_is)
    (case q_xBadWords_noA => k_is)
    (case q_xBadWords_hg => k_is)
    (case q_xBadWords_hk => k_is)
    (case q_xBadWords_hd => k_is)
    (case q_xBadWords_ha => k_is)
    (case q_xBadWords_hm => k_is)
    (case q_xBadWords_is => k_is)
    (case q_xBadWords_ss => k_is)
    (case q_xBadWords_w => k_is)
    (case q_xo_BadHead_BadPart => k_is)
    (case q_xo_BadName_BadPart => k_is)
    (case q_xo_BadName_BadHead => k_is)
    (case q_xo_BadWord_BadPart => k_is)
    (case q_xo_BadWord_BadHead => k_is)
    (case q_xo_BadWord_BadName => k_is)
    (case q_xo_BadWords_BadPart => k_is)
    (case q_xo_BadWords_BadHead => k_is)
    (case q_xo_BadWords_BadName => k_is)
    (case q_xo_BadWords_BadWord => k_is)
    (case q_xw_i => k_is)
    (case q_xw_t => k_is)
    (case q_xw_b => k_is)
